// Package machine: runs of programs (P7).
package machine

import (
	"flows/api"
	"flows/program"
)

// machine is how far a run has come.
type machine struct {
	variables  []uint32 // cells first, then local variables
	sent       []api.Sent
	fuel       int
	operations []func(x, y uint32) uint32
}

// Run runs a program from as many cells as it has.
func Run(p *program.Program, cells []uint32, fuel int) api.Ended {
	m := &machine{
		variables:  make([]uint32, len(cells)+p.Locals),
		fuel:       min(max(fuel, 0), api.MaxFuel),
		operations: operations(),
	}
	copy(m.variables, cells)
	done := m.all(p.Body)
	// A list of just the cells: behind a piece of the variables the local ones would still lie.
	last := make([]uint32, len(cells))
	copy(last, m.variables)
	return api.Ended{Cells: last, Sent: m.sent, Done: done}
}

// operations tells what the operations do, by their numbers.
func operations() []func(x, y uint32) uint32 {
	truth := func(holds bool) uint32 {
		if holds {
			return 1
		}
		return 0
	}
	return []func(x, y uint32) uint32{
		program.Plus:  func(x, y uint32) uint32 { return x + y },
		program.Minus: func(x, y uint32) uint32 { return x - y },
		program.Times: func(x, y uint32) uint32 { return x * y },
		program.Less:  func(x, y uint32) uint32 { return truth(x < y) },
		program.Equal: func(x, y uint32) uint32 { return truth(x == y) },
	}
}

// step takes a step's fuel; false: there is none left.
func (m *machine) step() bool {
	if m.fuel == 0 {
		return false
	}
	m.fuel--
	return true
}

// all does statements one after the other; false, here and below: the run has ended for want of fuel.
func (m *machine) all(stmts []*program.Stmt) bool {
	for _, s := range stmts {
		if !m.one(s) {
			return false
		}
	}
	return true
}

func (m *machine) one(s *program.Stmt) bool {
again:
	if !m.step() {
		return false
	}
	value := m.value(s.Value)
	switch s.Kind {
	case api.Set:
		m.variables[s.A] = value
	case api.Out:
		m.sent = append(m.sent, api.Sent{Channel: s.A, Value: value})
	case api.If:
		if value != 0 {
			return m.all(s.First)
		}
		return m.all(s.Else)
	case api.While:
		if value == 0 {
			return true
		}
		if !m.all(s.First) {
			return false
		}
		goto again // each look at the value is a step of its own
	}
	return true
}

func (m *machine) value(v *program.Value) uint32 {
	switch v.Kind {
	case api.Var:
		return m.variables[v.A]
	case api.Op:
		return m.operations[v.A](m.value(v.B), m.value(v.C))
	}
	return uint32(v.A)
}
