package check

import (
	"flows/api"
	"flows/program"
)

// role is what a node can stand for in those behind it.
type role int

const (
	value role = iota
	statement
	block
)

// rule is what P11 asks of nodes of one kind.
type rule struct {
	role    role
	follows func(c *checker, n *api.Node) bool // the node's level being one of the program's
}

// rules tells the rule of each kind.
func rules() []rule {
	return []rule{
		api.Num:   {value, func(*checker, *api.Node) bool { return true }},
		api.Var:   {value, (*checker).varFollows},
		api.Op:    {value, (*checker).opFollows},
		api.Set:   {statement, (*checker).setFollows},
		api.Out:   {statement, (*checker).outFollows},
		api.If:    {statement, (*checker).ifFollows},
		api.While: {statement, (*checker).whileFollows},
		api.Block: {block, (*checker).blockFollows},
	}
}

// follows tells whether a node follows, all those ahead of it doing so: thus their levels are the program's.
func (c *checker) follows(n *api.Node) bool {
	return c.program.Levels.Has(n.Level) && c.rules[n.Kind].follows(c, n)
}

func (c *checker) varFollows(n *api.Node) bool {
	return n.A < len(c.variables) && c.under(n.Level, c.variables[n.A])
}

func (c *checker) opFollows(n *api.Node) bool {
	return n.A < program.Operations && c.is(value, n.B) && c.is(value, n.C) && c.under(n.Level, c.level(n.B), c.level(n.C))
}

func (c *checker) setFollows(n *api.Node) bool { return c.mayGo(n, c.variables) }

func (c *checker) outFollows(n *api.Node) bool { return c.mayGo(n, c.program.Channels) }

// mayGo tells whether a node's value may go to the one of these that its A is; they are given by their levels.
func (c *checker) mayGo(n *api.Node, levels []int) bool {
	return n.A < len(levels) && c.is(value, n.B) && c.under(levels[n.A], c.level(n.B), n.Level)
}

func (c *checker) ifFollows(n *api.Node) bool { return c.guards(n, n.B) && c.guards(n, n.C) }

func (c *checker) whileFollows(n *api.Node) bool { return c.guards(n, n.B) }

// guards tells whether a block may be done or not by a node's value.
func (c *checker) guards(n *api.Node, within int) bool {
	return c.is(value, n.A) && c.is(block, within) && c.under(c.level(within), c.level(n.A), n.Level)
}

func (c *checker) blockFollows(n *api.Node) bool {
	for _, number := range n.List {
		if !c.is(statement, number) || !c.under(c.level(number), n.Level) {
			return false
		}
	}
	return true
}

// is tells whether a node can stand for that.
func (c *checker) is(as role, number int) bool { return c.rules[c.nodes[number].Kind].role == as }

// level tells a node's level.
func (c *checker) level(number int) int { return c.nodes[number].Level }

// under tells whether levels are all at or below the first one that is given.
func (c *checker) under(top int, levels ...int) bool {
	for _, level := range levels {
		if !c.program.Levels.AtOrBelow(level, top) {
			return false
		}
	}
	return true
}
