// Package program: what a program's text says (P2 to P4), and the level of a value (P6).
package program

import (
	"slices"

	"flows/api"
	"flows/levels"
)

// The operations, by their numbers.
const (
	Plus = iota
	Minus
	Times
	Less
	Equal
	Operations // how many there are
)

// Program is a program without a fault. Variables are numbered: cells first, then local variables.
type Program struct {
	Levels   *levels.Lattice
	Cells    []int // the level of each
	Channels []int // the level of each
	Locals   int   // how many there are
	Body     []*Stmt
}

// Value is a number, a variable or an operation.
type Value struct {
	Kind int    // api.Num, api.Var or api.Op
	A    int    // the number, the variable's or the operation's
	B, C *Value // what an operation is of
}

// Stmt is a statement.
type Stmt struct {
	Kind  int // api.Set, api.Out, api.If or api.While
	Line  int // where it stands in the text, from 1
	A     int // the variable that is set, the channel of an out
	Value *Value
	First []*Stmt // what stands first in an if, what is within a while
	Else  []*Stmt // what stands behind else
}

// Variables tells the level of each variable, where local variables have the levels that are given.
func (p *Program) Variables(locals []int) []int { return slices.Concat(p.Cells, locals) }

// LevelOf tells the level of a value (P6), where variables have the levels that are given.
func (p *Program) LevelOf(v *Value, variables []int) int {
	switch v.Kind {
	case api.Var:
		return variables[v.A]
	case api.Op:
		return p.Levels.Join(p.LevelOf(v.B, variables), p.LevelOf(v.C, variables))
	}
	return p.Levels.Lowest()
}
