package proof

import (
	"math"
	"testing"

	"flows/api"
)

type wrongProof struct {
	proof api.Proof
	node  int // -1: no place
}

func refusesProofs(t *testing.T, proofs []wrongProof) {
	t.Helper()
	for i, c := range proofs {
		b, err := Encode(c.proof)
		if errno, place := api.Tell(err); errno != api.ErrBytes || place != c.node || b != nil {
			t.Errorf("P9: Encode of proof %d: %v, %v, want node %d", i, b, err, c.node)
		}
		_, placed := err.(*api.At)
		if placed != (c.node >= 0) {
			t.Errorf("P9: Encode of proof %d: %#v", i, err)
		}
	}
}

// of makes a proof of nodes.
func of(nodes ...api.Node) api.Proof { return api.Proof{Nodes: nodes} }

func TestProofsWithoutAPlace(t *testing.T) {
	num := []api.Node{{A: 5}}
	wrong := api.Node{Kind: -1}
	refusesProofs(t, []wrongProof{
		{api.Proof{}, -1}, {api.Proof{Nodes: []api.Node{}}, -1}, {api.Proof{Locals: []int{1}}, -1},
		{api.Proof{Locals: make([]int, 5), Nodes: num}, -1}, {api.Proof{Locals: make([]int, 1000000), Nodes: num}, -1},
		{api.Proof{Locals: []int{-1}, Nodes: num}, -1}, {api.Proof{Locals: []int{0, 0, 0, -1}, Nodes: num}, -1}, {api.Proof{Locals: []int{math.MinInt}, Nodes: num}, -1}, {api.Proof{Locals: []int{1 << 31}, Nodes: num}, -1}, {api.Proof{Locals: []int{0, math.MaxInt}, Nodes: num}, -1}, {api.Proof{Locals: []int{1 << 32}, Nodes: num}, -1},
		{chain(201).proof, -1}, {of(make([]api.Node, 1000000)...), -1},
		{api.Proof{Locals: []int{-1}, Nodes: []api.Node{wrong}}, -1}, {api.Proof{Locals: make([]int, 5), Nodes: []api.Node{wrong}}, -1},
	})
}

// TestNumbersOfNodes: each number of a node, of each kind, below 0, too great, or there where the kind has none.
func TestNumbersOfNodes(t *testing.T) {
	right := []api.Node{
		{Kind: api.Num, Level: 4, A: 5}, {Kind: api.Var, Level: 4, A: 5}, {Kind: api.Op, Level: 4, A: 5, B: 1, C: 2}, {Kind: api.Set, Level: 4, A: 5, B: 2}, {Kind: api.Out, Level: 4, A: 5, B: 2},
		{Kind: api.If, Level: 4, A: 1, B: 0, C: 2}, {Kind: api.While, Level: 4, A: 1, B: 2}, {Kind: api.Block, Level: 4, List: []int{0, 1, 2}},
	}
	has := [][3]bool{{true}, {true}, {true, true, true}, {true, true}, {true, true}, {true, true, true}, {true, true}, {}}
	// Behind the node that is tried stands one that is by all.
	ahead := []api.Node{{A: 1}, {A: 2}, {A: 3}}
	tried := func(n api.Node) api.Proof {
		return of(append(append([]api.Node{}, ahead...), n, api.Node{Kind: api.Block, Level: 1, List: []int{0, 1, 2, 3}})...)
	}
	for _, n := range right {
		if _, err := Encode(tried(n)); err != nil {
			t.Errorf("P9: %v: %v", n, err)
		}
		for _, wrong := range []int{-1, math.MinInt, 1 << 31, 1 << 32, math.MaxInt, 1<<32 + 1} {
			level, a, b, c, list := n, n, n, n, n
			level.Level, a.A, b.B, c.C, list.List = wrong, wrong, wrong, wrong, []int{0, wrong}
			refusesProofs(t, []wrongProof{{tried(level), 3}, {tried(a), 3}, {tried(b), 3}, {tried(c), 3}, {tried(list), 3}})
		}
		a, b, c, list := n, n, n, n
		a.A, b.B, c.C, list.List = 1, 1, 1, []int{1}
		for i, other := range []api.Node{a, b, c} {
			_, err := Encode(tried(other))
			if errno, place := api.Tell(err); has[n.Kind][i] != (err == nil) || !has[n.Kind][i] && (errno != api.ErrBytes || place != 3) {
				t.Errorf("P8: %v: %v", other, err)
			}
		}
		if _, err := Encode(tried(list)); (n.Kind == api.Block) != (err == nil) {
			t.Errorf("P8: %v: %v", list, err)
		}
	}
	refusesProofs(t, []wrongProof{
		{of(api.Node{Kind: -1}), 0}, {of(api.Node{Kind: 8}), 0}, {of(api.Node{Kind: math.MaxInt}), 0}, {of(api.Node{Kind: math.MinInt}), 0}, {of(api.Node{Kind: 256}), 0},
		{of(api.Node{}, api.Node{Kind: api.Block, List: make([]int, 17)}), 1}, {of(api.Node{}, api.Node{Kind: api.Block, List: make([]int, 1000000)}), 1}, {of(api.Node{}, api.Node{Kind: api.Set, List: make([]int, 17)}), 1},
		{of(api.Node{}, api.Node{Kind: api.Num, List: []int{0}}), 1},
	})
	if _, err := Encode(of(api.Node{Level: math.MaxInt32, A: math.MaxInt32})); err != nil {
		t.Errorf("P8: the greatest numbers: %v", err)
	}
}

func TestNodesInTheirPlaces(t *testing.T) {
	num, block := api.Node{A: 5}, api.Node{Kind: api.Block}
	refusesProofs(t, []wrongProof{
		{of(api.Node{Kind: api.Op}), 0}, {of(api.Node{Kind: api.Set}), 0}, {of(api.Node{Kind: api.Out}), 0}, {of(api.Node{Kind: api.If}), 0}, {of(api.Node{Kind: api.While}), 0}, {of(api.Node{Kind: api.Block, List: []int{0}}), 0},
		{of(num, api.Node{Kind: api.Op, B: 1}), 1}, {of(num, api.Node{Kind: api.Op, C: 1}), 1}, {of(num, api.Node{Kind: api.Op, C: 2}), 1}, {of(num, api.Node{Kind: api.Set, B: 1}), 1}, {of(num, api.Node{Kind: api.Out, B: 9}), 1},
		{of(num, api.Node{Kind: api.If, A: 1}), 1}, {of(num, api.Node{Kind: api.If, B: 1}), 1}, {of(num, api.Node{Kind: api.If, C: 1}), 1}, {of(num, api.Node{Kind: api.While, A: 1}), 1}, {of(num, api.Node{Kind: api.While, B: math.MaxInt32}), 1}, {of(num, api.Node{Kind: api.Block, List: []int{0, 1}}), 1},
		{of(num, num), 1}, {of(num, block, block), 2}, {of(num, api.Node{Kind: api.Set, A: 1}, api.Node{Kind: api.Set, A: 1}), 2}, {of(num, api.Node{Kind: api.Block, List: []int{0, 0}}, api.Node{Kind: api.Block, List: []int{0, 0}}), 2},
		{of(num, block), 0}, {of(num, api.Node{A: 6}, api.Node{Kind: api.Set, B: 0}), 1}, {of(num, api.Node{A: 6}, api.Node{Kind: api.Set, B: 1}), 0}, {of(num, block, api.Node{Kind: api.Set, A: 0, B: 1}), 0},
	})
}

// TestTwoWrongNodes: the first node that is wrong by itself or the same as one ahead; only then those that none is by.
func TestTwoWrongNodes(t *testing.T) {
	num := api.Node{A: 5}
	low, early := api.Node{Level: -1}, api.Node{Kind: api.Set, B: 9}
	refusesProofs(t, []wrongProof{
		{of(low, early), 0}, {of(early, low), 0}, {of(num, num, low), 1}, {of(num, low, num), 1}, {of(num, early, num), 1}, {of(num, num, early), 1}, {of(low, low), 0},
		{of(num, api.Node{A: 6}, low), 2}, {of(num, api.Node{A: 6}, num), 2}, {of(num, api.Node{A: 6}, early), 2}, {of(num, api.Node{A: 6}, api.Node{A: 7}), 0},
	})
}

// TestWhatIsHandedIn: it is not written into, and what comes out shares no memory with it.
func TestWhatIsHandedIn(t *testing.T) {
	for _, c := range samples() {
		b := coded(c.bytes)
		p, err := Decode(b)
		if err != nil || string(b) != string(coded(c.bytes)) {
			t.Fatalf("P1: Decode wrote into %s: %v", c.bytes, err)
		}
		before := Text(p)
		clear(b)
		if Text(p) != before {
			t.Errorf("P1: %s: the proof changes with the bytes", c.bytes)
		}
		out, _ := Encode(p)
		clear(out[:cap(out)])
		if Text(p) != before {
			t.Errorf("P1: %s: Encode wrote into the proof, or its bytes are part of it", c.bytes)
		}
	}
}

// TestListsShareNothing: writing into one list of a proof, spare room too, changes no other.
func TestListsShareNothing(t *testing.T) {
	const bytes = "FP1 2 3 4 4 0 0 0 7 0 1 0 7 0 2 0 1 7 0 3 0 1 2"
	lists := func(p *api.Proof) []*[]int {
		return []*[]int{&p.Locals, &p.Nodes[1].List, &p.Nodes[2].List, &p.Nodes[3].List}
	}
	for i := range 4 {
		p, err := Decode(coded(bytes))
		q, _ := Decode(coded(bytes))
		if err != nil {
			t.Fatal(err)
		}
		own := lists(&p)[i]
		clear((*own)[:cap(*own)])
		*own = append([]int(nil), *lists(&q)[i]...)
		if Text(p) != Text(q) {
			t.Errorf("P1: list %d shares memory: %s", i, Text(p))
		}
	}
}
