package proof

import (
	"flows/api"
	"flows/fault"
)

// magic is what the bytes of every proof begin with.
const magic = "FP1"

// maxBytes: no number up to maxNumber takes more bytes.
const maxBytes = 5

// decoder is how far the reading of bytes has come.
type decoder struct {
	bytes  []byte
	at     int // the byte that is read next
	rules  [kinds]rule
	starts []int // the first byte of each node
}

// Decode tells the proof that bytes are, or the first byte that cannot stand where it stands.
func Decode(b []byte) (api.Proof, error) {
	d := &decoder{bytes: b, rules: rules()}
	var p api.Proof
	if err := fault.Catch(func() { p = d.proof() }); err != nil {
		return api.Proof{}, err
	}
	return p, nil
}

// need stops the reading with a byte that cannot stand there, unless all is well.
func (d *decoder) need(well bool, at int) {
	if !well {
		fault.Raise(api.ErrBytes, at)
	}
}

func (d *decoder) proof() api.Proof {
	for i := range len(magic) {
		at := d.at
		d.need(d.next() == magic[i], at)
	}
	var p api.Proof
	p.Locals = d.numbers(d.number(0, api.MaxLocals), maxNumber)
	for number := range d.number(1, api.MaxNodes) {
		d.starts = append(d.starts, d.at)
		p.Nodes = append(p.Nodes, d.node(number))
	}
	d.need(d.at == len(d.bytes), d.at)
	d.needAll(p.Nodes)
	return p
}

// needAll asks what can be asked only of all nodes, when there is no other fault.
func (d *decoder) needAll(nodes []api.Node) {
	if same := firstSame(nodes); same >= 0 {
		d.need(false, d.starts[same])
	}
	if unused := firstUnused(nodes); unused >= 0 {
		d.need(false, d.starts[unused])
	}
}

// next reads a byte.
func (d *decoder) next() byte {
	d.need(d.at < len(d.bytes), len(d.bytes))
	d.at++
	return d.bytes[d.at-1]
}

// number reads a number from least to most. Whatever is wrong with it, its first byte is told.
func (d *decoder) number(least, most int) int {
	first := d.at
	var n uint64 // of five bytes, which may be above maxNumber
	for i := range maxBytes {
		b := d.next()
		n |= uint64(b&0x7f) << (7 * i)
		if b < 0x80 {
			short := b > 0 || i == 0
			d.need(short && uint64(least) <= n && n <= uint64(most), first)
			return int(n)
		}
	}
	d.need(false, first)
	return 0
}

// numbers reads so many numbers, none of which may be above most.
func (d *decoder) numbers(count, most int) []int {
	var all []int
	for range count {
		all = append(all, d.number(0, most))
	}
	return all
}

// node reads a node, its number being the one that is given.
func (d *decoder) node(number int) api.Node {
	start := d.at
	n := api.Node{Kind: int(d.next())}
	d.need(n.Kind < kinds, start)
	rule := &d.rules[n.Kind]
	n.Level = d.number(0, maxNumber)
	for _, place := range rule.places(&n) {
		*place = d.number(0, maxNumber)
	}
	if rule.list {
		n.List = d.numbers(d.number(0, maxList), maxNumber)
	}
	d.need(rule.isBehind(&n, number), start)
	return n
}
