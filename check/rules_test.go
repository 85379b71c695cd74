package check

import (
	"fmt"
	"math"
	"strings"
	"testing"
)

// sides: levels 0 to 3 are above all, two side by side, and the lowest one; cell i is of level i, the local variables 4 and 5 have numbers behind them.
const sides = "level top;level l;level r;level bot;below bot l;below bot r;below l top;below r top;" +
	"cell t top;cell l l;cell r r;cell b bot;channel ct top;channel cl l;channel cb bot;begin;set x 1;set y 1;"

// localsOfSides are the levels of its two local variables.
const localsOfSides = "locals 1 2;"

// under says of each two of these levels whether the first is at or below the second; no other number is at or below anything.
func under(a, b int) bool {
	return a < 4 && b < 4 && [4][4]bool{0: {0: true}, 1: {0: true, 1: true}, 2: {0: true, 2: true}, 3: {true, true, true, true}}[a][b]
}

// upTo tells the numbers below n, and some above.
func upTo(n int) []int {
	var all []int
	for i := range n + 2 {
		all = append(all, i)
	}
	return append(all, 100, math.MaxInt32)
}

// holdsJust: the nodes all follow just if that is wanted, else the last one is the first that does not.
func holdsJust(t *testing.T, want bool, nodes string) {
	t.Helper()
	wrong := -1
	if !want {
		wrong = strings.Count(nodes, ";") - 1
	}
	wrongIs(t, wrong, nodes)
}

// wrongIs: the first of the nodes that does not follow is this one (-1: they all follow).
func wrongIs(t *testing.T, wrong int, nodes string) {
	t.Helper()
	given := readProof(t, localsOfSides+nodes)
	p := readProgram(t, sides)
	c := &checker{program: p, variables: p.Variables(given.Locals), nodes: given.Nodes, rules: rules()}
	if got := c.firstWrong(); got != wrong {
		t.Errorf("P11: %q: node %d does not follow, want %d", nodes, got, wrong)
	}
}

func TestNum(t *testing.T) {
	for _, level := range upTo(4) {
		for _, number := range upTo(4) {
			holdsJust(t, level < 4, fmt.Sprintf("0 num %d %d;", level, number))
		}
	}
}

func TestVar(t *testing.T) {
	levels := []int{0, 1, 2, 3, 1, 2}
	for _, level := range upTo(4) {
		for _, variable := range upTo(6) {
			want := variable < 6 && under(levels[variable], level)
			holdsJust(t, want, fmt.Sprintf("0 var %d %d;", level, variable))
		}
	}
}

func TestOp(t *testing.T) {
	for _, level := range upTo(4) {
		for _, operation := range upTo(5) {
			holdsJust(t, operation < 5 && level < 4, fmt.Sprintf("0 num 3 7;1 op %d %d 0 0;", level, operation))
		}
		for b := range 4 {
			for c := range 4 {
				holdsJust(t, under(b, level) && under(c, level), fmt.Sprintf("0 num %d 7;1 num %d 8;2 op %d 4 0 1;", b, c, level))
			}
		}
	}
}

// Here and below node 0 is none that the last one is by: of the lowest level, it would let pass what took it for one.
func TestSetAndOut(t *testing.T) {
	for kind, levels := range map[string][]int{"set": {0, 1, 2, 3, 1, 2}, "out": {0, 1, 3}} {
		for _, level := range upTo(4) {
			for _, place := range upTo(len(levels)) {
				for b := range 4 {
					want := place < len(levels) && under(level, levels[place]) && under(b, levels[place])
					holdsJust(t, want, fmt.Sprintf("0 num 3 6;1 num %d 7;2 %s %d %d 1;", b, kind, level, place))
				}
			}
		}
	}
}

func TestIf(t *testing.T) {
	for _, level := range upTo(4) {
		for a := range 4 {
			for b := range 4 {
				for c := range 4 {
					want := under(a, b) && under(level, b) && under(a, c) && under(level, c)
					holdsJust(t, want, fmt.Sprintf("0 num 3 6;1 num %d 7;2 block %d;3 block %d;4 if %d 1 2 3;", a, b, c, level))
				}
			}
		}
	}
}

func TestWhile(t *testing.T) {
	for _, level := range upTo(4) {
		for a := range 4 {
			for b := range 4 {
				holdsJust(t, under(a, b) && under(level, b), fmt.Sprintf("0 num 3 6;1 num %d 7;2 block %d;3 while %d 1 2;", a, b, level))
			}
		}
	}
}

func TestBlock(t *testing.T) {
	for _, level := range upTo(4) {
		holdsJust(t, level < 4, fmt.Sprintf("0 block %d;", level))
		for first := range 4 {
			for last := range 4 {
				nodes := fmt.Sprintf("0 num 3 7;1 set %d 0 0;2 set %d 0 0;3 block %d ", first, last, level)
				holdsJust(t, under(level, first) && under(level, last), nodes+"1 2;")
				holdsJust(t, under(level, first), nodes+"1;")
				holdsJust(t, under(level, first), nodes+"1 1 1 1 1 1 1 1 1 1 1 1 1 1 1 1;")
				holdsJust(t, under(level, first) && under(level, last), nodes+"1 1 1 1 1 1 1 1 1 1 1 1 1 1 1 2;")
			}
		}
	}
}

// TestWhatStandsWhere: a node of each kind (two Blocks: of nothing, and of something) wherever a node is by another.
func TestWhatStandsWhere(t *testing.T) {
	const each = "0 num 3 1;1 var 3 3;2 op 3 0 0 1;3 set 3 0 2;4 out 3 0 2;5 block 3;6 if 3 2 5 5;7 while 3 2 5;8 block 3 3 4 6 7;"
	const values, statements, blocks = "012", "3467", "58"
	for _, c := range []struct{ node, may string }{
		{"op 3 0 ? 0", values}, {"op 3 0 0 ?", values}, {"op 3 0 ? ?", values}, {"set 3 0 ?", values}, {"out 3 0 ?", values},
		{"if 3 ? 5 5", values}, {"if 3 0 ? 5", blocks}, {"if 3 0 5 ?", blocks}, {"while 3 ? 5", values}, {"while 3 0 ?", blocks},
		{"block 3 ?", statements}, {"block 3 ? 3", statements}, {"block 3 3 ?", statements}, {"block 3 3 3 3 3 3 3 3 3 3 3 3 3 3 3 3 ?", statements},
	} {
		for _, number := range "012345678" {
			node := strings.ReplaceAll(c.node, "?", string(number))
			holdsJust(t, strings.ContainsRune(c.may, number), each+"9 "+node+";")
		}
	}
}

func TestTheFirstThatDoesNotFollow(t *testing.T) {
	wrongIs(t, -1, "0 num 3 1;1 var 3 3;2 op 3 0 0 1;")
	wrongIs(t, 0, "0 num 4 1;1 var 3 9;2 op 3 5 0 1;")
	wrongIs(t, 1, "0 num 3 1;1 var 3 9;2 op 3 5 0 1;")
	wrongIs(t, 2, "0 num 3 1;1 var 3 3;2 op 3 5 0 1;")
	wrongIs(t, 1, "0 num 3 1;1 num 9 1;2 op 9 0 0 1;3 set 9 9 2;4 block 9 3;")
	wrongIs(t, 1, "0 num 3 1;1 num 9 1;2 op 0 0 0 1;")
	wrongIs(t, 0, "0 block 2147483647;1 block 3 0;")
}
