// Package levels: levels of secrecy, what is at or below what, and whether that is a lattice (P4).
package levels

import "flows/api"

// table says of each two levels whether the first is at or below the second.
type table [api.MaxLevels][api.MaxLevels]bool

// Order is levels as they are being told: numbered from 0, each at or below itself.
type Order struct {
	count int
	under table
}

// Lattice is levels that are a lattice.
type Lattice struct {
	count  int
	under  table
	joins  [api.MaxLevels][api.MaxLevels]int
	lowest int
}

// Count tells how many levels there are.
func (o *Order) Count() int { return o.count }

// Add makes a new level, there being fewer than api.MaxLevels, and tells its number.
func (o *Order) Add() int {
	n := o.count
	o.under[n][n] = true
	o.count++
	return n
}

// Below says that level a is below level b.
func (o *Order) Below(a, b int) { o.under[a][b] = true }

// Lattice tells the lattice that the levels are, or false if they are none. The order stays as it is.
func (o *Order) Lattice() (*Lattice, bool) {
	l := &Lattice{count: o.count, under: o.under}
	l.under.complete(o.count)
	if l.count == 0 || !l.findJoins() {
		return nil, false
	}
	l.findLowest()
	return l, true
}

// complete adds what follows: at or below what is at or below another one is at or below that.
func (t *table) complete(count int) {
again:
	for a := range count {
		for b := range count {
			for c := range count {
				if t[a][b] && t[b][c] && !t[a][c] {
					t[a][c] = true
					goto again // what is new may bring more, also of those that were passed
				}
			}
		}
	}
}

// findJoins fills in the joins; false: it is no lattice.
func (l *Lattice) findJoins() bool {
	upward := func(x, y int) bool { return l.under[x][y] }
	downward := func(x, y int) bool { return l.under[y][x] }
	whole := true
pairs:
	for a := range l.count {
		for b := range l.count {
			twins := a != b && l.under[a][b] && l.under[b][a]
			join := bound(l.count, a, b, upward)
			meet := bound(l.count, a, b, downward)
			if twins || join < 0 || meet < 0 {
				whole = false
				break pairs
			}
			l.joins[a][b] = join
		}
	}
	return whole
}

// bound tells, of those that a and b are both under, the one that is under all of them; -1: there is none.
// By the order the other way round the same search finds a meet.
func bound(count, a, b int, under func(x, y int) bool) int {
candidates:
	for c := range count {
		if !under(a, c) || !under(b, c) {
			continue
		}
		for d := range count {
			if under(a, d) && under(b, d) && !under(c, d) {
				continue candidates
			}
		}
		return c
	}
	return -1
}

// findLowest goes down from level 0: a finite lattice has one that is at or below all.
func (l *Lattice) findLowest() {
	for n := range l.count {
		if l.under[n][l.lowest] {
			l.lowest = n
		}
	}
}

// Has tells whether there is a level of that number.
func (l *Lattice) Has(level int) bool { return 0 <= level && level < l.count }

// AtOrBelow tells whether level a is at or below level b.
func (l *Lattice) AtOrBelow(a, b int) bool { return l.under[a][b] }

// Join tells the lowest level that is at or above both.
func (l *Lattice) Join(a, b int) int { return l.joins[a][b] }

// Lowest tells the level that is at or below all.
func (l *Lattice) Lowest() int { return l.lowest }
