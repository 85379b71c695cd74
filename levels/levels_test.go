package levels

import (
	"math/rand"
	"testing"

	"flows/api"
)

// relation is P4 in its own words, as slowly as need be: what Order is held against.
type relation [][]bool

func newRelation(n int, below [][2]int) relation {
	r := make(relation, n)
	for i := range r {
		r[i] = make([]bool, n)
		r[i][i] = true
	}
	for _, p := range below {
		r[p[0]][p[1]] = true
	}
	for mid := range n {
		for a := range n {
			for b := range n {
				r[a][b] = r[a][b] || r[a][mid] && r[mid][b]
			}
		}
	}
	return r
}

func (r relation) flipped() relation {
	f := newRelation(len(r), nil)
	for a := range r {
		for b := range r {
			f[b][a] = r[a][b]
		}
	}
	return f
}

// joins: all that are at or above both and at or below all such.
func (r relation) joins(a, b int) []int {
	var above, least []int
	for c := range r {
		if r[a][c] && r[b][c] {
			above = append(above, c)
		}
	}
	for _, c := range above {
		all := true
		for _, d := range above {
			all = all && r[c][d]
		}
		if all {
			least = append(least, c)
		}
	}
	return least
}

func (r relation) isLattice() bool {
	f := r.flipped()
	for a := range r {
		for b := range r {
			if a != b && r[a][b] && r[b][a] || len(r.joins(a, b)) == 0 || len(f.joins(a, b)) == 0 {
				return false
			}
		}
	}
	return len(r) > 0
}

func orderOf(n int, below [][2]int) *Order {
	o := &Order{}
	for range n {
		o.Add()
	}
	for _, p := range below {
		o.Below(p[0], p[1])
	}
	return o
}

// hold holds an order against P4's words; it tells whether it is a lattice.
func hold(t *testing.T, n int, below [][2]int) bool {
	t.Helper()
	r := newRelation(n, below)
	l, ok := orderOf(n, below).Lattice()
	if ok != r.isLattice() || ok != (l != nil) {
		t.Fatalf("P4: %d levels, below %v: a lattice: %v, want %v", n, below, ok, r.isLattice())
	}
	if !ok {
		return false
	}
	for level := -1; level <= api.MaxLevels; level++ {
		if l.Has(level) != (0 <= level && level < n) {
			t.Fatalf("P4: %d levels, level %d is there: %v", n, level, l.Has(level))
		}
	}
	for a := range n {
		if !r[l.Lowest()][a] {
			t.Fatalf("P4: below %v: %d is not the lowest", below, l.Lowest())
		}
		for b := range n {
			if l.AtOrBelow(a, b) != r[a][b] || l.Join(a, b) != r.joins(a, b)[0] {
				t.Fatalf("P4: below %v: levels %d and %d: %v, join %d", below, a, b, l.AtOrBelow(a, b), l.Join(a, b))
			}
		}
	}
	return true
}

func pairs(n int) [][2]int {
	var out [][2]int
	for a := range n {
		for b := range n {
			if a != b {
				out = append(out, [2]int{a, b})
			}
		}
	}
	return out
}

func TestAllOrdersOfFewLevels(t *testing.T) {
	for n := range 5 {
		all := pairs(n)
		lattices := 0
		for set := range 1 << len(all) {
			var below [][2]int
			for i, p := range all {
				if set>>i&1 == 1 {
					below = append(below, p)
				}
			}
			if hold(t, n, below) {
				lattices++
			}
		}
		if (lattices > 0) != (n > 0) {
			t.Errorf("P4: of %d levels there are %d lattices", n, lattices)
		}
	}
}

func TestOrdersOfManyLevels(t *testing.T) {
	source := rand.New(rand.NewSource(1))
	lattices := 0
	for range 20000 {
		n := 5 + source.Intn(api.MaxLevels-4)
		name := source.Perm(n)
		var below [][2]int
		for a := range n {
			for b := a + 1; b < n; b++ {
				if source.Intn(2) == 0 || a == 0 || b == n-1 {
					below = append(below, [2]int{name[a], name[b]})
				}
			}
		}
		if hold(t, n, below) {
			lattices++
		}
	}
	if lattices == 0 || lattices == 20000 {
		t.Errorf("%d of these are lattices: the test tells nothing", lattices)
	}
}

func TestEachWayToBeNoLattice(t *testing.T) {
	for _, c := range []struct {
		why   string
		n     int
		below [][2]int
		want  bool
	}{
		{"no level", 0, nil, false},
		{"one", 1, nil, true},
		{"one below itself", 1, [][2]int{{0, 0}}, true},
		{"two apart", 2, nil, false},
		{"two, the higher one first", 2, [][2]int{{1, 0}}, true},
		{"each below the other", 2, [][2]int{{0, 1}, {1, 0}}, false},
		{"a ring of three", 3, [][2]int{{0, 1}, {1, 2}, {2, 0}}, false},
		{"nothing above both", 3, [][2]int{{0, 1}, {0, 2}}, false},
		{"nothing below both", 3, [][2]int{{1, 0}, {2, 0}}, false},
		{"no least above both", 6, [][2]int{{0, 1}, {0, 2}, {1, 3}, {1, 4}, {2, 3}, {2, 4}, {3, 5}, {4, 5}}, false},
		{"a chain told backward", 6, [][2]int{{4, 5}, {3, 4}, {2, 3}, {1, 2}, {0, 1}}, true},
		{"a ring of six", 6, [][2]int{{4, 5}, {3, 4}, {2, 3}, {1, 2}, {0, 1}, {5, 0}}, false},
		{"four side by side", 6, [][2]int{{0, 1}, {0, 2}, {0, 3}, {0, 4}, {1, 5}, {2, 5}, {3, 5}, {4, 5}}, true},
		{"a pentagon", 5, [][2]int{{0, 1}, {1, 2}, {2, 4}, {0, 3}, {3, 4}}, true},
	} {
		if got := hold(t, c.n, c.below); got != c.want {
			t.Errorf("P4: %s: a lattice: %v, want %v", c.why, got, c.want)
		}
	}
}

func TestLatticeLeavesTheOrder(t *testing.T) {
	o := orderOf(3, [][2]int{{0, 1}, {1, 2}})
	was := *o
	o.Lattice()
	if *o != was {
		t.Errorf("the order was changed: %v", o)
	}
}
