// Package infer: finding a proof of a program (P13).
package infer

import (
	"flows/api"
	"flows/program"
)

// finder is a program, with levels of its variables.
type finder struct {
	program   *program.Program
	variables []int // the level of each; those of local ones rise until they are high enough
}

// move is a set or an out, with what comes to the variable or channel by it.
type move struct {
	stmt  *program.Stmt
	level int // the join of the level that it is done under and its value's: where both may go, that may, and the other way round
}

// Proof tells the proof of a program by the lowest levels of its local variables, or the first line by which there is none.
func Proof(p *program.Program) (api.Proof, error) {
	f := &finder{program: p, variables: p.Variables(lowestOfAll(p))}
	f.raiseLocals()
	if line := f.firstDown(); line > 0 {
		return api.Proof{}, &api.At{Err: api.ErrFlow, Place: line}
	}
	return api.Proof{Locals: f.variables[len(p.Cells):], Nodes: f.nodes()}, nil
}

// lowestOfAll gives each local variable the level from which it rises.
func lowestOfAll(p *program.Program) []int {
	locals := make([]int, p.Locals)
	for i := range locals {
		locals[i] = p.Levels.Lowest()
	}
	return locals
}

// raiseLocals raises local variables by what comes to them, and by no more: so they get the lowest levels that there are.
func (f *finder) raiseLocals() {
again:
	for _, m := range f.moves() {
		if f.isOfLocal(m.stmt) && !f.fits(m) {
			variable := m.stmt.A
			f.variables[variable] = f.program.Levels.Join(f.variables[variable], m.level)
			goto again // others may have to rise by it, also such as are set further up
		}
	}
}

// firstDown tells the first line that lets something flow down; 0: there is none.
func (f *finder) firstDown() int {
	for _, m := range f.moves() {
		if !f.fits(m) {
			return m.stmt.Line
		}
	}
	return 0
}

// moves tells the program's sets and outs, in the order of the text.
func (f *finder) moves() []move { return f.movesOf(f.program.Body, f.program.Levels.Lowest()) }

func (f *finder) movesOf(stmts []*program.Stmt, under int) []move {
	var all []move
	for _, s := range stmts {
		level := f.program.Levels.Join(under, f.levelOf(s.Value))
		switch s.Kind {
		case api.Set, api.Out:
			all = append(all, move{s, level})
		case api.If, api.While:
			all = append(all, f.movesOf(s.First, level)...)
			all = append(all, f.movesOf(s.Else, level)...)
		}
	}
	return all
}

// fits tells whether what comes to a variable or channel is at or below its level.
func (f *finder) fits(m move) bool {
	levels := f.variables
	if m.stmt.Kind == api.Out {
		levels = f.program.Channels
	}
	return f.program.Levels.AtOrBelow(m.level, levels[m.stmt.A])
}

func (f *finder) isOfLocal(s *program.Stmt) bool {
	return s.Kind == api.Set && s.A >= len(f.program.Cells)
}

func (f *finder) levelOf(v *program.Value) int { return f.program.LevelOf(v, f.variables) }
