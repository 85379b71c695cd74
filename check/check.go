// Package check: when a node follows (P11), and when a proof is one of a program (P12).
package check

import (
	"flows/api"
	"flows/program"
)

// checker is a proof's nodes, held against a program.
type checker struct {
	program   *program.Program
	variables []int // the level of each
	nodes     []api.Node
	rules     []rule
}

// Proof tells why a proof does not prove a program; nil: it does. The proof must be one that bytes can be.
func Proof(p *program.Program, given api.Proof) error {
	if !localsFit(p, given.Locals) {
		return api.ErrRoot
	}
	c := &checker{program: p, variables: p.Variables(given.Locals), nodes: given.Nodes, rules: rules()}
	if wrong := c.firstWrong(); wrong >= 0 {
		return &api.At{Err: api.ErrRule, Place: wrong}
	}
	if !c.isOfAll(len(c.nodes)-1, p.Body) {
		return api.ErrRoot
	}
	return nil
}

// localsFit tells whether these can be the levels of the program's local variables.
func localsFit(p *program.Program, locals []int) bool {
	for _, level := range locals {
		if !p.Levels.Has(level) {
			return false
		}
	}
	return len(locals) == p.Locals
}

// firstWrong tells the first node that does not follow; -1: there is none.
func (c *checker) firstWrong() int {
	for i := range c.nodes {
		if !c.follows(&c.nodes[i]) {
			return i
		}
	}
	return -1
}

// isOfAll tells whether a node is of statements, one after the other.
func (c *checker) isOfAll(number int, stmts []*program.Stmt) bool {
	n := &c.nodes[number]
	if n.Kind != api.Block || len(n.List) != len(stmts) {
		return false
	}
	for i, s := range stmts {
		if !c.isOfOne(n.List[i], s) {
			return false
		}
	}
	return true
}

// isOfOne tells whether a node is of a statement. Where there is no else it must have a Block of nothing.
func (c *checker) isOfOne(number int, s *program.Stmt) bool {
	n := &c.nodes[number]
	if n.Kind != s.Kind {
		return false
	}
	switch n.Kind {
	case api.If:
		return c.isOfValue(n.A, s.Value) && c.isOfAll(n.B, s.First) && c.isOfAll(n.C, s.Else)
	case api.While:
		return c.isOfValue(n.A, s.Value) && c.isOfAll(n.B, s.First)
	}
	return n.A == s.A && c.isOfValue(n.B, s.Value)
}

// isOfValue tells whether a node is of a value.
func (c *checker) isOfValue(number int, v *program.Value) bool {
	n := &c.nodes[number]
	if n.Kind != v.Kind || n.A != v.A {
		return false
	}
	return n.Kind != api.Op || c.isOfValue(n.B, v.B) && c.isOfValue(n.C, v.C)
}
