package infer

import (
	"flows/api"
	"flows/once"
	"flows/program"
	"flows/proof"
)

// writer is the nodes of a proof as far as they are written: each behind those that it is by, and once.
type writer struct {
	*finder
	written []api.Node
	seen    *once.Things[proof.Content]
}

// nodes tells the nodes of the program, the variables having their levels.
func (f *finder) nodes() []api.Node {
	w := &writer{finder: f, seen: once.None[proof.Content]()}
	w.block(f.program.Body, f.program.Levels.Lowest())
	return w.written
}

// number tells a node's number; one that is new is written.
func (w *writer) number(n api.Node) int {
	number, isNew := w.seen.Number(proof.ContentOf(&n))
	if isNew {
		w.written = append(w.written, n)
	}
	return number
}

// block tells the number of the Block of statements that are done under a level.
func (w *writer) block(stmts []*program.Stmt, under int) int {
	n := api.Node{Kind: api.Block, Level: under}
	for _, s := range stmts {
		n.List = append(n.List, w.statement(s, under))
	}
	return w.number(n)
}

func (w *writer) statement(s *program.Stmt, under int) int {
	n := api.Node{Kind: s.Kind, Level: under}
	value := w.value(s.Value)
	within := w.program.Levels.Join(under, w.levelOf(s.Value))
	switch s.Kind {
	case api.Set, api.Out:
		n.A, n.B = s.A, value
	case api.While:
		n.A, n.B = value, w.block(s.First, within)
	case api.If: // where there is no else, C is a Block of nothing
		n.A, n.B, n.C = value, w.block(s.First, within), w.block(s.Else, within)
	}
	return w.number(n)
}

func (w *writer) value(v *program.Value) int {
	n := api.Node{Kind: v.Kind, Level: w.levelOf(v), A: v.A}
	if v.Kind == api.Op {
		n.B, n.C = w.value(v.B), w.value(v.C)
	}
	return w.number(n)
}
