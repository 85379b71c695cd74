package infer

import (
	"math/rand"
	"slices"
	"strconv"
	"strings"
	"testing"

	"flows/api"
	"flows/check"
	"flows/machine"
	"flows/program"
	"flows/proof"
)

// lattices: one level, chains, two and three side by side, two side by side of which one is two, a grid.
var lattices = []struct {
	levels int
	below  [][2]int
}{
	{1, nil},
	{2, [][2]int{{0, 1}}},
	{3, [][2]int{{0, 1}, {1, 2}}},
	{4, [][2]int{{0, 1}, {0, 2}, {1, 3}, {2, 3}}},
	{5, [][2]int{{0, 1}, {0, 2}, {0, 3}, {1, 4}, {2, 4}, {3, 4}}},
	{5, [][2]int{{0, 1}, {1, 2}, {2, 4}, {0, 3}, {3, 4}}},
	{6, [][2]int{{0, 1}, {1, 2}, {0, 3}, {1, 4}, {2, 5}, {3, 4}, {4, 5}}},
}

// maker makes programs by chance.
type maker struct {
	*rand.Rand
	source *source
	locals int // how many there are already
	left   int // statements that may still come
}

func (m *maker) program() *source {
	lattice := lattices[m.Intn(len(lattices))]
	name := m.Perm(lattice.levels)
	var below [][2]int
	for _, pair := range lattice.below {
		below = append(below, [2]int{name[pair[0]], name[pair[1]]})
	}
	m.source = newSource(lattice.levels, below...)
	for range 1 + m.Intn(api.MaxCells) {
		m.source.cells = append(m.source.cells, m.Intn(lattice.levels))
	}
	for range 1 + m.Intn(api.MaxChannels) {
		m.source.channels = append(m.source.channels, m.Intn(lattice.levels))
	}
	m.locals, m.left = 0, m.Intn(api.MaxStmts+1)
	m.statements(0, m.left)
	return m.source
}

func (m *maker) add(words ...string) {
	m.source.body = append(m.source.body, strings.Join(words, " "))
}

func (m *maker) statements(depth, count int) {
	for ; count > 0 && m.left > 0; count-- {
		m.left--
		switch kind := m.Intn(6); {
		case kind == 0:
			m.add("out", channelNames[:len(m.source.channels)][m.Intn(len(m.source.channels)):][:1], m.simple())
		case kind == 1 && depth < api.MaxDepth:
			m.add("if", m.simple())
			m.statements(depth+1, m.Intn(4))
			if m.Intn(2) == 0 {
				m.add("else")
				m.statements(depth+1, m.Intn(3))
			}
			m.add("end")
		case kind == 2 && depth < api.MaxDepth:
			m.while(depth)
		default:
			m.set()
		}
	}
}

// while makes one that mostly comes to its end.
func (m *maker) while(depth int) {
	value := m.simple()
	m.add("while", value)
	m.statements(depth+1, m.Intn(3))
	if value >= "a" && m.left > 0 && m.Intn(4) > 0 {
		m.left--
		m.add("set", value, value, "-", "1")
	}
	m.add("end")
}

// set sets a cell, a local variable, or one that it makes.
func (m *maker) set() {
	value := []string{m.simple()}
	if m.Intn(2) == 0 {
		value = append(value, []string{"+", "-", "*", "<", "=="}[m.Intn(5)], m.simple())
	}
	name := cellNames[m.Intn(len(m.source.cells)):][:1]
	if k := m.Intn(api.MaxLocals); k < m.locals {
		name = localNames[k : k+1]
	} else if m.Intn(2) == 0 && m.locals < api.MaxLocals {
		name = localNames[m.locals : m.locals+1]
		m.locals++
	}
	m.add(slices.Concat([]string{"set", name}, value)...)
}

func (m *maker) simple() string {
	names := cellNames[:len(m.source.cells)] + localNames[:m.locals]
	if m.Intn(4) == 0 {
		return strconv.Itoa(m.Intn(3))
	}
	return names[m.Intn(len(names)):][:1]
}

func read(t *testing.T, s string) *program.Program {
	t.Helper()
	p, err := program.Read(s)
	if err != nil {
		t.Fatalf("%q is no program: %v", s, err)
	}
	return p
}

// lowestLevels tells, of all levels of local variables by which the sets of these are as P13 asks, those that are at or below all others.
func lowestLevels(t *testing.T, s *source, locals int) []int {
	t.Helper()
	var willDo [][]int
	s.each(locals, func(levels []int) {
		if len(s.wrong(levels, true)) == 0 {
			willDo = append(willDo, slices.Clone(levels))
		}
	})
	for _, lowest := range willDo {
		isLower := func(other []int) bool {
			for i, level := range lowest {
				if !s.under[level][other[i]] {
					return false
				}
			}
			return true
		}
		if !slices.ContainsFunc(willDo, func(other []int) bool { return !isLower(other) }) {
			return lowest
		}
	}
	t.Fatalf("%q has no lowest levels", s.text())
	return nil
}

// TestAgainstTheWords: of programs made by chance the lowest levels, the first line or the proof's nodes are those that P13 says, and Check says nil of the proof.
func TestAgainstTheWords(t *testing.T) {
	m := &maker{Rand: rand.New(rand.NewSource(1))}
	proven, raised, flowing, late := 0, 0, 0, 0
	for range 3000 {
		s := m.program()
		p := read(t, s.text())
		locals := lowestLevels(t, s, p.Locals)
		found, err := Proof(p)
		if wrong := s.wrong(locals, false); len(wrong) > 0 {
			flowing++
			if len(wrong) > 1 {
				late++
			}
			if e, at := api.Tell(err); e != api.ErrFlow || at != wrong[0] || found.Locals != nil || found.Nodes != nil {
				t.Fatalf("P13: %q: %v, %v, want lines %v", s.text(), found, err, wrong)
			}
			continue
		}
		proven++
		if slices.ContainsFunc(locals, func(level int) bool { return level != s.lowest() }) {
			raised++
		}
		if err != nil || !slices.Equal(found.Locals, locals) {
			t.Fatalf("P13: %q: levels %v, %v, want %v", s.text(), found.Locals, err, locals)
		}
		if got, want := termsOf(found.Nodes), s.terms(locals); !slices.Equal(got, want) {
			t.Fatalf("P13: %q: nodes\n%s\nwant\n%s", s.text(), strings.Join(got, "\n"), strings.Join(want, "\n"))
		}
		if _, err := proof.Encode(found); err != nil {
			t.Fatalf("P13: %q: what is found is no proof: %v", s.text(), err)
		}
		if err := check.Proof(p, found); err != nil {
			t.Fatalf("P12: %q: what is found does not prove it: %v", s.text(), err)
		}
	}
	if proven < 500 || raised < 200 || flowing < 500 || late < 200 {
		t.Errorf("%d proven, %d with a local variable above the lowest level; %d flowing, %d by two lines: the test tells little", proven, raised, flowing, late)
	}
}

// seen tells what of a run's end is at or below a level.
func seen(s *source, x api.Ended, level int) ([]uint32, []api.Sent) {
	var cells []uint32
	for i, value := range x.Cells {
		if s.under[s.cells[i]][level] {
			cells = append(cells, value)
		}
	}
	sent := slices.DeleteFunc(slices.Clone(x.Sent), func(one api.Sent) bool { return !s.under[s.channels[one.Channel]][level] })
	return cells, sent
}

// twoCells makes cells for two runs that agree at and below a level.
func (m *maker) twoCells(s *source, level int) ([]uint32, []uint32) {
	var first, second []uint32
	for _, own := range s.cells {
		value := uint32(m.Intn(4))
		first = append(first, value)
		if !s.under[own][level] {
			value = uint32(m.Intn(4))
		}
		second = append(second, value)
	}
	return first, second
}

// TestSecretsAreKept: P14, of programs made by chance.
func TestSecretsAreKept(t *testing.T) {
	m := &maker{Rand: rand.New(rand.NewSource(2))}
	runs, apart := 0, 0
	for range 4000 {
		s := m.program()
		p := read(t, s.text())
		if _, err := Proof(p); err != nil {
			continue
		}
		for range 40 {
			level := m.Intn(len(s.under))
			first, second := m.twoCells(s, level)
			x, y := machine.Run(p, first, 500), machine.Run(p, second, 500)
			if !x.Done || !y.Done {
				continue
			}
			runs++
			xCells, xSent := seen(s, x, level)
			yCells, ySent := seen(s, y, level)
			if !slices.Equal(xCells, yCells) || !slices.Equal(xSent, ySent) {
				t.Fatalf("P14: %q from %v and %v: at and below level %d it ends as %v, and as %v", s.text(), first, second, level, x, y)
			}
			if !slices.Equal(x.Sent, y.Sent) {
				apart++
			}
		}
	}
	if runs < 10000 || apart < 1000 {
		t.Errorf("%d pairs of runs, %d of which sent different things: the test tells little", runs, apart)
	}
}
