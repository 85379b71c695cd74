package program

import "flows/api"

func (r *reader) set(words []string) {
	_, channel := r.channels[words[0]]
	r.need(!channel, api.ErrName)
	// The value comes ahead of the variable: a local one is not there in the line that makes it.
	value := r.value(words[1:])
	r.add(&Stmt{Kind: api.Set, A: r.variable(words[0]), Value: value})
}

func (r *reader) out(words []string) {
	channel, there := r.channels[words[0]]
	r.need(there, api.ErrName)
	r.add(&Stmt{Kind: api.Out, A: channel, Value: r.value(words[1:])})
}

func (r *reader) openIf(words []string) { r.opens(api.If, words) }

func (r *reader) openWhile(words []string) { r.opens(api.While, words) }

func (r *reader) opens(kind int, words []string) {
	stmt := &Stmt{Kind: kind, Value: r.value(words)}
	r.need(len(r.open) < api.MaxDepth, api.ErrLimit)
	r.add(stmt)
	r.open = append(r.open, &opened{stmt: stmt})
}

func (r *reader) openElse([]string) {
	last := r.lastOpened()
	r.need(last != nil && last.stmt.Kind == api.If && !last.hadElse, api.ErrPlace)
	last.hadElse = true
}

func (r *reader) end([]string) {
	r.need(r.lastOpened() != nil, api.ErrPlace)
	r.open = r.open[:len(r.open)-1]
}

// lastOpened tells the innermost if or while that is not ended; nil: there is none.
func (r *reader) lastOpened() *opened {
	if len(r.open) == 0 {
		return nil
	}
	return r.open[len(r.open)-1]
}

// add lays a statement behind those of the part that is being read.
func (r *reader) add(stmt *Stmt) {
	r.need(r.stmts < api.MaxStmts, api.ErrLimit)
	r.stmts++
	stmt.Line = r.line
	part := &r.program.Body
	if last := r.lastOpened(); last != nil {
		part = &last.stmt.First
		if last.hadElse {
			part = &last.stmt.Else
		}
	}
	*part = append(*part, stmt)
}

// variable tells the number of a variable that is set; a name that is new makes a local one.
func (r *reader) variable(name string) int {
	if variable, there := r.variables[name]; there {
		return variable
	}
	r.need(r.program.Locals < api.MaxLocals, api.ErrLimit)
	made := len(r.variables)
	r.variables[name] = made
	r.program.Locals++
	return made
}

// value reads one word, or two with an operation between.
func (r *reader) value(words []string) *Value {
	if len(words) == 1 {
		return r.simple(words[0])
	}
	done, _ := operation(words[1])
	return &Value{Kind: api.Op, A: done, B: r.simple(words[0]), C: r.simple(words[2])}
}

// simple reads a number, or the name of a variable that is there.
func (r *reader) simple(word string) *Value {
	if n, ok := number(word); ok {
		return &Value{Kind: api.Num, A: n}
	}
	variable, there := r.variables[word]
	r.need(there, api.ErrName)
	return &Value{Kind: api.Var, A: variable}
}
