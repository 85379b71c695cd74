package proof

import (
	"slices"

	"flows/api"
	"flows/once"
)

// Encode tells a proof's bytes, or the first node by which it is none (without a place: it is none whatever its nodes are).
func Encode(p api.Proof) ([]byte, error) {
	if !sizesFit(p) {
		return nil, api.ErrBytes
	}
	wrong := firstWrong(p.Nodes)
	if wrong < 0 {
		wrong = firstUnused(p.Nodes)
	}
	if wrong >= 0 {
		return nil, &api.At{Err: api.ErrBytes, Place: wrong}
	}
	return write(p), nil
}

// sizesFit tells whether there are as many local variables and nodes as there may be, and the local variables' levels are numbers.
func sizesFit(p api.Proof) bool {
	return len(p.Locals) <= api.MaxLocals && allNumbers(p.Locals) && 1 <= len(p.Nodes) && len(p.Nodes) <= api.MaxNodes
}

func allNumbers(all []int) bool {
	return !slices.ContainsFunc(all, func(n int) bool { return !isNumber(n) })
}

// firstWrong tells the first node that is wrong by itself or by those ahead of it; -1: there is none.
func firstWrong(nodes []api.Node) int {
	table := rules()
	seen := once.None[Content]()
	for i := range nodes {
		n := &nodes[i]
		if !hasItsNumbers(&table, n) || !table[n.Kind].isBehind(n, i) {
			return i
		}
		if _, isNew := seen.Number(ContentOf(n)); !isNew {
			return i
		}
	}
	return -1
}

// hasItsNumbers tells whether a node has the numbers that one of its kind may have, and no others.
func hasItsNumbers(table *[kinds]rule, n *api.Node) bool {
	if n.Kind < 0 || n.Kind >= kinds || !allNumbers([]int{n.Level, n.A, n.B, n.C}) {
		return false
	}
	return table[n.Kind].restIsZero(n) && len(n.List) <= maxList && allNumbers(n.List)
}

// write tells the bytes of a proof in which nothing is wrong.
func write(p api.Proof) []byte {
	table := rules()
	b := appendList([]byte(magic), p.Locals)
	b = appendNumber(b, len(p.Nodes))
	for _, n := range p.Nodes {
		rule := &table[n.Kind]
		b = append(b, byte(n.Kind))
		b = appendNumber(b, n.Level)
		for _, place := range rule.places(&n) {
			b = appendNumber(b, *place)
		}
		if rule.list {
			b = appendList(b, n.List)
		}
	}
	return b
}

// appendList writes how many numbers there are, and they.
func appendList(b []byte, all []int) []byte {
	b = appendNumber(b, len(all))
	for _, n := range all {
		b = appendNumber(b, n)
	}
	return b
}

// appendNumber writes a number in bytes of seven bits, the lowest first, each but the last with its highest bit set.
func appendNumber(b []byte, n int) []byte {
	for n >= 0x80 {
		b = append(b, byte(n)|0x80)
		n >>= 7
	}
	return append(b, byte(n))
}
