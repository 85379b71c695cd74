// Package proof: proofs (P8), as bytes (P9) and as texts (P10).
package proof

import (
	"math"

	"flows/api"
	"flows/once"
)

const (
	maxNumber = math.MaxInt32
	maxList   = 16 // nodes of a Block
	kinds     = api.Block + 1
)

// rule is what a kind of node has.
type rule struct {
	word    string                  // its name in a text
	numbers int                     // how many of A, B and C, in this order
	list    bool                    // whether it has a list
	by      func(n *api.Node) []int // the nodes that it is by
}

// rules tells what each kind has.
func rules() [kinds]rule {
	none := func(*api.Node) []int { return nil }
	second := func(n *api.Node) []int { return []int{n.B} }
	return [kinds]rule{
		api.Num:   {"num", 1, false, none},
		api.Var:   {"var", 1, false, none},
		api.Op:    {"op", 3, false, func(n *api.Node) []int { return []int{n.B, n.C} }},
		api.Set:   {"set", 2, false, second},
		api.Out:   {"out", 2, false, second},
		api.If:    {"if", 3, false, func(n *api.Node) []int { return []int{n.A, n.B, n.C} }},
		api.While: {"while", 2, false, func(n *api.Node) []int { return []int{n.A, n.B} }},
		api.Block: {"block", 0, true, func(n *api.Node) []int { return n.List }},
	}
}

// places tells where those of A, B and C lie that a node of this kind has.
func (r *rule) places(n *api.Node) []*int {
	return []*int{&n.A, &n.B, &n.C}[:r.numbers]
}

// restIsZero tells whether what the kind has not is 0: the fewer numbers it has, the more must be.
func (r *rule) restIsZero(n *api.Node) bool {
	rest := 0
	switch r.numbers {
	case 0:
		rest |= n.A
		fallthrough
	case 1:
		rest |= n.B
		fallthrough
	case 2:
		rest |= n.C
	}
	return rest == 0 && (r.list || len(n.List) == 0)
}

// isBehind tells whether all that a node is by have numbers below its own.
func (r *rule) isBehind(n *api.Node, number int) bool {
	for _, by := range r.by(n) {
		if by >= number {
			return false
		}
	}
	return true
}

// isNumber tells whether a proof may have this number.
func isNumber(n int) bool { return 0 <= n && n <= maxNumber }

// Content is a node as something that can be held against others: as an array its list can be, too.
type Content struct {
	kind, level, a, b, c, count int
	list                        [maxList]int
}

// ContentOf tells what is in a node whose list is not too long.
func ContentOf(n *api.Node) Content {
	c := Content{kind: n.Kind, level: n.Level, a: n.A, b: n.B, c: n.C, count: len(n.List)}
	copy(c.list[:], n.List)
	return c
}

// firstSame tells the first node that is the same as one ahead of it; -1: there is none.
func firstSame(nodes []api.Node) int {
	seen := once.None[Content]()
	for i := range nodes {
		if _, isNew := seen.Number(ContentOf(&nodes[i])); !isNew {
			return i
		}
	}
	return -1
}

// firstUnused tells the first node but the last that none is by; -1: there is none.
func firstUnused(nodes []api.Node) int {
	table := rules()
	used := make([]bool, len(nodes))
	for i := range nodes {
		for _, by := range table[nodes[i].Kind].by(&nodes[i]) {
			used[by] = true
		}
	}
	for i := range len(nodes) - 1 {
		if !used[i] {
			return i
		}
	}
	return -1
}
