package program

import (
	"slices"
	"strconv"
	"strings"
	"testing"

	"flows/api"
)

// text: a semicolon is a line's end.
func text(s string) string { return strings.ReplaceAll(s, ";", "\n") }

const head = "level low;level high;below low high;cell a low;cell s high;channel pub low;channel sec high;begin;"

func read(t *testing.T, s string) *Program {
	t.Helper()
	p, err := Read(text(s))
	if err != nil || p == nil {
		t.Fatalf("Read(%q): %v", s, err)
	}
	return p
}

// showValue and showAll write down what was read, in the order in which it stands.
func showValue(v *Value) string {
	switch v.Kind {
	case api.Num:
		return strconv.Itoa(v.A)
	case api.Var:
		return "v" + strconv.Itoa(v.A)
	}
	return "(" + showValue(v.B) + " op" + strconv.Itoa(v.A) + " " + showValue(v.C) + ")"
}

func showAll(stmts []*Stmt) string {
	var parts []string
	for _, s := range stmts {
		n := strconv.Itoa(s.A)
		switch s.Kind {
		case api.Set:
			parts = append(parts, "set v"+n+" "+showValue(s.Value))
		case api.Out:
			parts = append(parts, "out c"+n+" "+showValue(s.Value))
		case api.If:
			parts = append(parts, "if "+showValue(s.Value)+" {"+showAll(s.First)+"} {"+showAll(s.Else)+"}")
		case api.While:
			parts = append(parts, "while "+showValue(s.Value)+" {"+showAll(s.First)+"}")
		}
	}
	return strings.Join(parts, ", ")
}

func TestEachKindOfLine(t *testing.T) {
	for _, c := range []struct{ s, want string }{
		{"", ""},
		{"set a 0;", "set v0 0"},
		{"set s a;", "set v1 v0"},
		{"set x 999999999;", "set v2 999999999"},
		{"set x a + 1;", "set v2 (v0 op0 1)"},
		{"set x 2 - s;", "set v2 (2 op1 v1)"},
		{"set x a * s;", "set v2 (v0 op2 v1)"},
		{"set x 3 < 4;", "set v2 (3 op3 4)"},
		{"set x a == a;", "set v2 (v0 op4 v0)"},
		{"out pub a;out sec 10;", "out c0 v0, out c1 10"},
		{"if a;end;", "if v0 {} {}"},
		{"if 0;else;end;", "if 0 {} {}"},
		{"if a;set a 1;set a 2;else;set a 3;out pub a;end;set a 4;", "if v0 {set v0 1, set v0 2} {set v0 3, out c0 v0}, set v0 4"},
		{"while s;set s 0;end;", "while v1 {set v1 0}"},
		{"if a;while s;if 1;end;end;else;while 2;end;end;", "if v0 {while v1 {if 1 {} {}}} {while 2 {}}"},
		{"if a;if s;else;set a 1;end;else;set a 2;end;", "if v0 {if v1 {} {set v0 1}} {set v0 2}"},
		{"set y 1;set x y;set y x;", "set v2 1, set v3 v2, set v2 v3"},
		{"if 0;set x 1;else;set y x;end;set z y;", "if 0 {set v2 1} {set v3 v2}, set v4 v3"},
	} {
		if got := showAll(read(t, head+c.s).Body); got != c.want {
			t.Errorf("P2: %q: %s, want %s", c.s, got, c.want)
		}
	}
}

// linesOf tells where statements stand, those within others behind them.
func linesOf(stmts []*Stmt) []int {
	var all []int
	for _, s := range stmts {
		all = append(all, s.Line)
		all = append(all, linesOf(s.First)...)
		all = append(all, linesOf(s.Else)...)
	}
	return all
}

func TestLinesOfStatements(t *testing.T) {
	p := read(t, head+"set x 1;if a;out pub 1;while s;end;else;set s 1;end;out sec a;")
	if got, want := linesOf(p.Body), []int{9, 10, 11, 12, 15, 17}; !slices.Equal(got, want) {
		t.Errorf("P2: the statements stand in lines %v, want %v", got, want)
	}
}

// TestLinesWordsAsNames: no name is set aside.
func TestLinesWordsAsNames(t *testing.T) {
	p := read(t, "level level;cell begin level;channel end level;begin;set if begin;if if;out end if;else;set else if;end;while else;end;")
	if got, want := showAll(p.Body), "set v1 v0, if v1 {out c0 v1} {set v2 v1}, while v2 {}"; got != want {
		t.Errorf("P2: %s, want %s", got, want)
	}
}

func TestNumbering(t *testing.T) {
	p := read(t, "level top;level mid;level bot;channel y mid;below mid top;cell d bot;cell c top;channel x bot;below bot mid;cell b mid;begin;set z b;set w z + d;out x c;out y w;")
	if !p.Levels.Has(2) || p.Levels.Has(3) || p.Levels.Lowest() != 2 || !p.Levels.AtOrBelow(2, 0) || p.Levels.AtOrBelow(0, 1) {
		t.Errorf("P4: levels are numbered in the order of the text: %v", p.Levels)
	}
	if len(p.Cells) != 3 || p.Cells[0] != 2 || p.Cells[1] != 0 || p.Cells[2] != 1 {
		t.Errorf("P4: cells: %v", p.Cells)
	}
	if len(p.Channels) != 2 || p.Channels[0] != 1 || p.Channels[1] != 2 {
		t.Errorf("P4: channels: %v", p.Channels)
	}
	if got, want := showAll(p.Body), "set v3 v2, set v4 (v3 op0 v0), out c1 v1, out c0 v4"; got != want || p.Locals != 2 {
		t.Errorf("P4: %s, %d local variables, want %s", got, p.Locals, want)
	}
}

func TestLevelOf(t *testing.T) {
	// Two levels side by side, the lowest one numbered last.
	p := read(t, "level top;level l;level r;level bot;below bot l;below bot r;below l top;below r top;cell a l;cell b r;cell c bot;begin;set x 1;set y 1;"+
		"set c 7;set c a;set c b;set c c;set c x;set c y;set c a + b;set c a < a;set c 1 - b;set c c == 2;set c x * c;set c y - x;set c 1 + 2;")
	for _, c := range []struct {
		locals []int
		want   []int
	}{
		{[]int{3, 1}, []int{3, 1, 2, 3, 3, 1, 0, 1, 2, 3, 3, 1, 3}},
		{[]int{2, 1}, []int{3, 1, 2, 3, 2, 1, 0, 1, 2, 3, 2, 0, 3}},
		{[]int{0, 3}, []int{3, 1, 2, 3, 0, 3, 0, 1, 2, 3, 0, 0, 3}},
	} {
		for i, s := range p.Body[2:] {
			if got := p.LevelOf(s.Value, p.Variables(c.locals)); got != c.want[i] {
				t.Errorf("P6: local variables of %v: %s is of level %d, want %d", c.locals, showValue(s.Value), got, c.want[i])
			}
		}
	}
}
