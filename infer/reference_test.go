package infer

import (
	"fmt"
	"slices"
	"strings"

	"flows/api"
)

// source is a program as what it is made of: names, and lines behind begin; and P13 in its own words, as slowly as need be: what Proof is held against.
type source struct {
	below    [][2]int // of each two the first is below the second
	under    [][]bool // what is at or below what
	cells    []int    // the level of each
	channels []int    // the level of each
	body     []string
}

// The names of cells, channels and local variables: the number is the letter's place.
const (
	cellNames    = "abcdef"
	channelNames = "opq"
	localNames   = "wxyz"
)

func newSource(levels int, below ...[2]int) *source {
	s := &source{below: below}
	for a := range levels {
		s.under = append(s.under, make([]bool, levels))
		s.under[a][a] = true
	}
	for _, pair := range below {
		s.under[pair[0]][pair[1]] = true
	}
	for mid := range levels {
		for a := range levels {
			for b := range levels {
				s.under[a][b] = s.under[a][b] || s.under[a][mid] && s.under[mid][b]
			}
		}
	}
	return s
}

// levelName: a level may have the name of a cell, so none is in the way.
func levelName(level int) string { return string(rune('a' + level)) }

func (s *source) head() []string {
	var lines []string
	for level := range s.under {
		lines = append(lines, "level "+levelName(level))
	}
	for _, pair := range s.below {
		lines = append(lines, "below "+levelName(pair[0])+" "+levelName(pair[1]))
	}
	for i, level := range s.cells {
		lines = append(lines, "cell "+cellNames[i:i+1]+" "+levelName(level))
	}
	for i, level := range s.channels {
		lines = append(lines, "channel "+channelNames[i:i+1]+" "+levelName(level))
	}
	return append(lines, "begin")
}

func (s *source) text() string {
	return strings.Join(slices.Concat(s.head(), s.body), "\n") + "\n"
}

// least tells which of the levels that will do is at or below all of them.
func (s *source) least(willDo func(level int) bool) int {
	for a := range s.under {
		all := willDo(a)
		for b := range s.under {
			all = all && (!willDo(b) || s.under[a][b])
		}
		if all {
			return a
		}
	}
	panic("no lattice")
}

func (s *source) lowest() int { return s.least(func(int) bool { return true }) }

func (s *source) join(a, b int) int {
	return s.least(func(level int) bool { return s.under[a][level] && s.under[b][level] })
}

// levelOf tells the level of a value that is written as one word or as three.
func (s *source) levelOf(words []string, locals []int) int {
	if len(words) == 3 {
		return s.join(s.levelOf(words[:1], locals), s.levelOf(words[2:], locals))
	}
	if i := strings.Index(cellNames, words[0]); i >= 0 {
		return s.cells[i]
	}
	if i := strings.Index(localNames, words[0]); i >= 0 {
		return locals[i]
	}
	return s.lowest()
}

// wrong tells the lines that are not as P13 asks, where local variables have these levels: of those that set local ones, or of the others.
func (s *source) wrong(locals []int, ofLocals bool) []int {
	var found []int
	under := []int{s.lowest()}
	for i, line := range s.body {
		words := strings.Fields(line)
		top := under[len(under)-1]
		switch words[0] {
		case "if", "while":
			under = append(under, s.join(top, s.levelOf(words[1:], locals)))
		case "end":
			under = under[:len(under)-1]
		case "set", "out":
			to := 0
			if k := strings.Index(channelNames, words[1]); k >= 0 {
				to = s.channels[k]
			} else {
				to = s.levelOf(words[1:2], locals)
			}
			isWrong := !s.under[top][to] || !s.under[s.levelOf(words[2:], locals)][to]
			if isWrong && strings.Contains(localNames, words[1]) == ofLocals {
				found = append(found, len(s.head())+i+1)
			}
		}
	}
	return found
}

// each goes through all levels that so many local variables can have.
func (s *source) each(locals int, do func(levels []int)) {
	levels := make([]int, locals)
	var at func(i int)
	at = func(i int) {
		if i == locals {
			do(levels)
			return
		}
		for levels[i] = range s.under {
			at(i + 1)
		}
	}
	at(0)
}

// terms tells the nodes that P13 asks for, in its order, each with all that it is by written out.
func (s *source) terms(locals []int) []string {
	t := &terms{source: s, locals: locals}
	t.block(s.lowest())
	return t.all
}

type terms struct {
	*source
	locals []int
	line   int
	all    []string
}

func (t *terms) add(kind, level int, parts ...any) string {
	term := fmt.Sprint(kind, " of ", level, " ", parts)
	if !slices.Contains(t.all, term) {
		t.all = append(t.all, term)
	}
	return term
}

// block goes on to the else or end of what it is in, which the caller passes.
func (t *terms) block(under int) string {
	var parts []any
	for t.line < len(t.body) && t.body[t.line] != "else" && t.body[t.line] != "end" {
		parts = append(parts, t.statement(strings.Fields(t.body[t.line]), under))
	}
	return t.add(api.Block, under, parts...)
}

func (t *terms) statement(words []string, under int) string {
	t.line++
	switch words[0] {
	case "set":
		return t.add(api.Set, under, t.variable(words[1]), t.value(words[2:]))
	case "out":
		return t.add(api.Out, under, strings.Index(channelNames, words[1]), t.value(words[2:]))
	}
	value := t.value(words[1:])
	within := t.join(under, t.levelOf(words[1:], t.locals))
	first := t.block(within)
	if words[0] == "while" {
		t.line++
		return t.add(api.While, under, value, first)
	}
	if t.body[t.line] == "else" {
		t.line++
	}
	behind := t.block(within)
	t.line++
	return t.add(api.If, under, value, first, behind)
}

func (t *terms) variable(name string) int {
	if i := strings.Index(cellNames, name); i >= 0 {
		return i
	}
	return len(t.cells) + strings.Index(localNames, name)
}

func (t *terms) value(words []string) string {
	level := t.levelOf(words, t.locals)
	if len(words) == 3 {
		b := t.value(words[:1])
		c := t.value(words[2:])
		return t.add(api.Op, level, slices.Index([]string{"+", "-", "*", "<", "=="}, words[1]), b, c)
	}
	if strings.Contains(cellNames+localNames, words[0]) {
		return t.add(api.Var, level, t.variable(words[0]))
	}
	return t.add(api.Num, level, words[0])
}

// termsOf tells the nodes of a proof in the same way.
func termsOf(nodes []api.Node) []string {
	var all []string
	for _, n := range nodes {
		var parts []any
		switch n.Kind {
		case api.Num, api.Var:
			parts = []any{n.A}
		case api.Op:
			parts = []any{n.A, all[n.B], all[n.C]}
		case api.Set, api.Out:
			parts = []any{n.A, all[n.B]}
		case api.If:
			parts = []any{all[n.A], all[n.B], all[n.C]}
		case api.While:
			parts = []any{all[n.A], all[n.B]}
		case api.Block:
			for _, by := range n.List {
				parts = append(parts, all[by])
			}
		}
		all = append(all, fmt.Sprint(n.Kind, " of ", n.Level, " ", parts))
	}
	return all
}
