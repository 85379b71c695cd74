package program

import (
	"flows/api"
	"flows/fault"
	"flows/levels"
	"flows/lines"
)

// reader is how far the reading of a program has come.
type reader struct {
	program   *Program
	line      int
	begun     bool
	order     levels.Order
	levels    map[string]int
	variables map[string]int
	channels  map[string]int
	open      []*opened
	stmts     int
}

// opened is an if or while that is not ended yet.
type opened struct {
	stmt    *Stmt
	hadElse bool
}

// lineRule is a kind of line.
type lineRule struct {
	word  string
	shape string // of the words behind the first: see fits
	ahead bool   // it stands ahead of what follows begin
	read  func(r *reader, words []string)
}

// lineRules tells the kinds of lines (P2).
func lineRules() []lineRule {
	return []lineRule{
		{"level", "n", true, (*reader).level},
		{"below", "nn", true, (*reader).below},
		{"cell", "nn", true, (*reader).cell},
		{"channel", "nn", true, (*reader).channel},
		{"begin", "", true, (*reader).begin},
		{"set", "na", false, (*reader).set},
		{"set", "naoa", false, (*reader).set},
		{"out", "na", false, (*reader).out},
		{"if", "a", false, (*reader).openIf},
		{"else", "", false, (*reader).openElse},
		{"while", "a", false, (*reader).openWhile},
		{"end", "", false, (*reader).end},
	}
}

// Read tells the program that a text is, or the error of its first line with a fault (P3).
func Read(s string) (*Program, error) {
	r := &reader{
		program:   &Program{},
		levels:    map[string]int{},
		variables: map[string]int{},
		channels:  map[string]int{},
	}
	if err := fault.Catch(func() { r.text(s) }); err != nil {
		return nil, err
	}
	return r.program, nil
}

// text reads line by line, and then looks at what must have been there by the line behind the last one.
func (r *reader) text(s string) {
	if len(s) > api.MaxText {
		fault.Raise(api.ErrLong, 0)
	}
	rules := lineRules()
	count := lines.Each(s, func(line int, words []string) {
		r.line = line
		r.oneLine(rules, words)
	})
	r.line = count + 1
	r.need(r.begun && len(r.open) == 0, api.ErrPlace)
}

// need stops the reading with an error in this line, unless all is well.
func (r *reader) need(well bool, errno api.Errno) {
	if !well {
		fault.Raise(errno, r.line)
	}
}

func (r *reader) oneLine(rules []lineRule, words []string) {
	for _, rule := range rules {
		if words[0] == rule.word && fits(rule.shape, words[1:]) {
			r.need(rule.ahead != r.begun, api.ErrPlace)
			rule.read(r, words[1:])
			return
		}
	}
	r.need(false, api.ErrSyntax)
}

func (r *reader) level(words []string) {
	_, there := r.levels[words[0]]
	r.need(!there, api.ErrName)
	r.need(r.order.Count() < api.MaxLevels, api.ErrLimit)
	r.levels[words[0]] = r.order.Add()
}

func (r *reader) below(words []string) {
	r.order.Below(r.levelNamed(words[0]), r.levelNamed(words[1]))
}

func (r *reader) levelNamed(name string) int {
	level, there := r.levels[name]
	r.need(there, api.ErrName)
	return level
}

func (r *reader) cell(words []string) {
	level := r.newPlace(words)
	r.need(len(r.program.Cells) < api.MaxCells, api.ErrLimit)
	r.variables[words[0]] = len(r.program.Cells)
	r.program.Cells = append(r.program.Cells, level)
}

func (r *reader) channel(words []string) {
	level := r.newPlace(words)
	r.need(len(r.program.Channels) < api.MaxChannels, api.ErrLimit)
	r.channels[words[0]] = len(r.program.Channels)
	r.program.Channels = append(r.program.Channels, level)
}

// newPlace tells the level of a new cell or channel, whose name must be no other one's.
func (r *reader) newPlace(words []string) int {
	_, variable := r.variables[words[0]]
	_, channel := r.channels[words[0]]
	r.need(!variable && !channel, api.ErrName)
	return r.levelNamed(words[1])
}

func (r *reader) begin([]string) {
	lattice, ok := r.order.Lattice()
	r.need(ok, api.ErrLattice)
	r.program.Levels = lattice
	r.begun = true
}
