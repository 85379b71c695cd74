package check

import (
	"errors"
	"strings"
	"testing"

	"flows/api"
	"flows/program"
	"flows/proof"
)

// text: a semicolon is a line's end.
func text(s string) string { return strings.ReplaceAll(s, ";", "\n") }

func readProgram(t *testing.T, s string) *program.Program {
	t.Helper()
	p, err := program.Read(text(s))
	if err != nil {
		t.Fatalf("%q is no program: %v", s, err)
	}
	return p
}

func readProof(t *testing.T, s string) api.Proof {
	t.Helper()
	given, err := proof.Read(text(s))
	if err != nil {
		t.Fatalf("%q is no text of a proof: %v", s, err)
	}
	return given
}

// answers: what comes of a proof that bytes can be is this error with this place (-1: it has none).
func answers(t *testing.T, s, its string, errno api.Errno, place int) {
	t.Helper()
	given := readProof(t, its)
	if _, err := proof.Encode(given); err != nil {
		t.Fatalf("%q is no proof: %v", its, err)
	}
	err := Proof(readProgram(t, s), given)
	var at *api.At
	if e, p := api.Tell(err); e != errno || p != place || errors.As(err, &at) != (place >= 0) {
		t.Errorf("P12: %q, %q: %v, want %d at %d", s, its, err, errno, place)
	}
}

// flat: a program of one level, so that each node follows that has its parts; the cells are 0 and 1, local variables come behind them.
const flat = "level l;cell p l;cell q l;channel c l;channel d l;begin;"

// proves and provesNot: all nodes follow, and the last one is, or is not, of the program.
func proves(t *testing.T, s, its string) {
	t.Helper()
	answers(t, flat+s, its, api.OK, -1)
}

func provesNot(t *testing.T, s string, all ...string) {
	t.Helper()
	for _, its := range all {
		answers(t, flat+s, its, api.ErrRoot, -1)
	}
}

func TestNoStatements(t *testing.T) {
	proves(t, "", "locals;0 block 0;")
	provesNot(t, "", "locals;0 num 0 0;", "locals;0 var 0 0;", "locals;0 num 0 1;1 set 0 0 0;", "locals;0 num 0 1;1 set 0 0 0;2 block 0 1;", "locals;0 num 0 1;1 block 0;2 while 0 0 1;")
	answers(t, flat, "locals;0 block 1;", api.ErrRule, 0)
}

func TestSetOfTheProgram(t *testing.T) {
	proves(t, "set p 5;", "locals;0 num 0 5;1 set 0 0 0;2 block 0 1;")
	proves(t, "set q 5;", "locals;0 num 0 5;1 set 0 1 0;2 block 0 1;")
	proves(t, "set x 5;", "locals 0;0 num 0 5;1 set 0 2 0;2 block 0 1;")
	proves(t, "set x 5;set y 5;", "locals 0 0;0 num 0 5;1 set 0 2 0;2 set 0 3 0;3 block 0 1 2;")
	provesNot(t, "set p 5;",
		"locals;0 num 0 5;1 set 0 1 0;2 block 0 1;", "locals;0 num 0 6;1 set 0 0 0;2 block 0 1;", "locals;0 num 0 5;1 out 0 0 0;2 block 0 1;",
		"locals;0 num 0 5;1 set 0 0 0;", "locals;0 num 0 5;1 set 0 0 0;2 block 0 1 1;", "locals;0 block 0;")
	provesNot(t, "set x 5;", "locals 0;0 num 0 5;1 set 0 0 0;2 block 0 1;", "locals 0;0 num 0 5;1 set 0 1 0;2 block 0 1;")
	provesNot(t, "set x 5;set y 5;", "locals 0 0;0 num 0 5;1 set 0 3 0;2 set 0 2 0;3 block 0 1 2;")
}

func TestOutOfTheProgram(t *testing.T) {
	proves(t, "out c p;", "locals;0 var 0 0;1 out 0 0 0;2 block 0 1;")
	proves(t, "out d p;", "locals;0 var 0 0;1 out 0 1 0;2 block 0 1;")
	provesNot(t, "out c p;", "locals;0 var 0 0;1 out 0 1 0;2 block 0 1;", "locals;0 var 0 1;1 out 0 0 0;2 block 0 1;", "locals;0 var 0 0;1 set 0 0 0;2 block 0 1;", "locals;0 num 0 0;1 out 0 0 0;2 block 0 1;")
}

// valued is a proof of one set of p, its value being the node 2 of those that are given.
func valued(nodes string) string { return "locals;" + nodes + "3 set 0 0 2;4 block 0 3;" }

func TestValuesOfTheProgram(t *testing.T) {
	proves(t, "set p 0;", "locals;0 num 0 0;1 set 0 0 0;2 block 0 1;")
	proves(t, "set p 999999999;", "locals;0 num 0 999999999;1 set 0 0 0;2 block 0 1;")
	proves(t, "set p q;", "locals;0 var 0 1;1 set 0 0 0;2 block 0 1;")
	provesNot(t, "set p 0;", "locals;0 num 0 1;1 set 0 0 0;2 block 0 1;", "locals;0 num 0 2147483647;1 set 0 0 0;2 block 0 1;", "locals;0 var 0 0;1 set 0 0 0;2 block 0 1;", "locals;0 num 0 0;1 op 0 0 0 0;2 set 0 0 1;3 block 0 2;")
	provesNot(t, "set p q;", "locals;0 var 0 0;1 set 0 0 0;2 block 0 1;", "locals;0 num 0 1;1 set 0 0 0;2 block 0 1;")
	for number, name := range []string{"+", "-", "*", "<", "=="} {
		for other := range 5 {
			its := valued("0 var 0 1;1 num 0 7;2 op 0 " + string(rune('0'+other)) + " 0 1;")
			if other == number {
				proves(t, "set p q "+name+" 7;", its)
			} else {
				provesNot(t, "set p q "+name+" 7;", its)
			}
		}
	}
	proves(t, "set p 7 + q;", valued("0 num 0 7;1 var 0 1;2 op 0 0 0 1;"))
	proves(t, "set p 7 + q;", valued("0 var 0 1;1 num 0 7;2 op 0 0 1 0;"))
	proves(t, "set p q + q;", "locals;0 var 0 1;1 op 0 0 0 0;2 set 0 0 1;3 block 0 2;")
	provesNot(t, "set p q + q;", valued("0 var 0 0;1 var 0 1;2 op 0 0 0 1;"), valued("0 var 0 1;1 var 0 0;2 op 0 0 0 1;"), valued("0 var 0 1;1 op 0 0 0 0;2 op 0 0 0 1;"), valued("0 var 0 1;1 op 0 0 0 0;2 op 0 0 1 0;"))
	provesNot(t, "set p 7 + q;",
		valued("0 var 0 1;1 num 0 7;2 op 0 0 0 1;"), valued("0 num 0 7;1 var 0 1;2 op 0 0 1 0;"),
		valued("0 num 0 8;1 var 0 1;2 op 0 0 0 1;"), valued("0 num 0 7;1 var 0 0;2 op 0 0 0 1;"), "locals;0 num 0 7;1 op 0 0 0 0;2 set 0 0 1;3 block 0 2;",
		"locals;0 var 0 1;1 op 0 0 0 0;2 set 0 0 1;3 block 0 2;", "locals;0 num 0 7;1 set 0 0 0;2 block 0 1;")
}

// parted is a proof in which nodes 2 and 3 set p to 1 and to 2; those that are given stand behind them.
func parted(nodes string) string {
	return "locals;0 num 0 1;1 num 0 2;2 set 0 0 0;3 set 0 0 1;" + nodes
}

func TestBlockOfTheProgram(t *testing.T) {
	const both = "set p 1;set p 2;"
	proves(t, both, parted("4 block 0 2 3;"))
	provesNot(t, both, parted("4 block 0 3 2;"), parted("4 block 0 2 3 3;"), parted("4 block 0 2 3 2;"), parted("4 block 0 2 2 3;"), "locals;0 num 0 1;1 set 0 0 0;2 block 0 1;", "locals;0 num 0 2;1 set 0 0 0;2 block 0 1;", "locals;0 num 0 1;1 set 0 0 0;2 block 0 1 1;", "locals;0 block 0;")
	const many = "set p 1;set p 1;set p 1;set p 1;set p 1;set p 1;set p 1;set p 1;set p 1;set p 1;set p 1;set p 1;set p 1;set p 1;set p 1;"
	proves(t, many+"set p 2;", parted("4 block 0 2 2 2 2 2 2 2 2 2 2 2 2 2 2 2 3;"))
	provesNot(t, many+"set p 2;", parted("4 block 0 2 2 2 2 2 2 2 2 2 2 2 2 2 2 3 2;"), parted("4 block 0 2 2 2 2 2 2 2 2 2 2 2 2 2 2 3;"), parted("4 block 0 2 2 2 2 2 2 2 2 2 2 2 2 2 2 3 3;"))
}

func TestIfOfTheProgram(t *testing.T) {
	const one, two = "if 1;set p 1;else;set p 2;end;", "4 block 0 2;5 block 0 3;"
	proves(t, one, parted(two+"6 if 0 0 4 5;7 block 0 6;"))
	proves(t, one, parted("4 block 0 3;5 block 0 2;6 if 0 0 5 4;7 block 0 6;"))
	provesNot(t, one,
		parted(two+"6 if 0 0 5 4;7 block 0 6;"), parted(two+"6 if 0 1 4 5;7 block 0 6;"), parted(two+"6 if 0 0 4 5;7 block 0 6 6;"), parted(two+"6 if 0 0 4 5;"),
		parted("4 block 0 2;5 block 0 3 3;6 if 0 0 4 5;7 block 0 6;"), parted("4 block 0 2 2;5 block 0 3;6 if 0 0 4 5;7 block 0 6;"), parted("4 block 0 2 3;5 block 0;6 if 0 0 4 5;7 block 0 6;"), parted("4 block 0;5 block 0 2 3;6 if 0 0 4 5;7 block 0 6;"),
		parted(two+"6 while 0 0 4;7 while 0 0 5;8 block 0 6 7;"), "locals;0 num 0 1;1 set 0 0 0;2 block 0 1;3 if 0 0 2 2;4 block 0 3;", "locals;0 num 0 1;1 set 0 0 0;2 block 0 1;3 block 0;4 if 0 0 2 3;5 block 0 4;")
	const first = "locals;0 num 0 1;1 set 0 0 0;2 block 0 1;3 block 0;4 if 0 0 2 3;5 block 0 4;"
	const last = "locals;0 num 0 1;1 set 0 0 0;2 block 0 1;3 block 0;4 if 0 0 3 2;5 block 0 4;"
	const same = "locals;0 num 0 1;1 set 0 0 0;2 block 0 1;3 if 0 0 2 2;4 block 0 3;"
	const none = "locals;0 num 0 1;1 block 0;2 if 0 0 1 1;3 block 0 2;"
	for s, its := range map[string]string{"if 1;set p 1;end;": first, "if 1;set p 1;else;end;": first, "if 1;else;set p 1;end;": last, "if 1;set p 1;else;set p 1;end;": same, "if 1;end;": none, "if 1;else;end;": none} {
		for _, other := range []string{first, last, same, none} {
			if other == its {
				proves(t, s, its)
			} else {
				provesNot(t, s, other)
			}
		}
	}
}

func TestWhileOfTheProgram(t *testing.T) {
	const one = "while 1;set p 1;set p 2;end;"
	proves(t, one, parted("4 block 0 2 3;5 while 0 0 4;6 block 0 5;"))
	provesNot(t, one,
		parted("4 block 0 2 3;5 while 0 1 4;6 block 0 5;"), parted("4 block 0 3 2;5 while 0 0 4;6 block 0 5;"), parted("4 block 0 2 3 3;5 while 0 0 4;6 block 0 5;"), parted("4 block 0 2 3;5 while 0 0 4;"),
		parted("4 block 0 2 3;5 block 0;6 if 0 0 4 5;7 block 0 6;"), parted("4 block 0 2 3;5 if 0 0 4 4;6 block 0 5;"), parted("4 block 0 2;5 while 0 0 4;6 block 0 5 3;"),
		"locals;0 num 0 1;1 set 0 0 0;2 block 0 1;3 while 0 0 2;4 block 0 3;", "locals;0 num 0 1;1 block 0;2 while 0 0 1;3 block 0 2;")
	proves(t, "while 1;end;", "locals;0 num 0 1;1 block 0;2 while 0 0 1;3 block 0 2;")
	provesNot(t, "while 1;end;", "locals;0 num 0 2;1 block 0;2 while 0 0 1;3 block 0 2;", "locals;0 num 0 1;1 block 0;2 if 0 0 1 1;3 block 0 2;", "locals;0 num 0 1;1 block 0;2 while 0 0 1;3 block 0 2 2;")
}

// TestWithin: a part that is wrong only deep within others.
func TestWithin(t *testing.T) {
	const s = "if p;while q;if p;out c 7;else;out d 7;end;end;else;set q 7;end;"
	const its = "locals;0 var 0 0;1 var 0 1;2 num 0 7;3 out 0 0 2;4 block 0 3;5 out 0 1 2;6 block 0 5;7 if 0 0 4 6;8 block 0 7;9 while 0 1 8;10 block 0 9;11 set 0 1 2;12 block 0 11;13 if 0 0 10 12;14 block 0 13;"
	proves(t, s, its)
	for _, other := range []string{"if q;while q;if p;out c 7;else;out d 7;end;end;else;set q 7;end;", "if p;while p;if p;out c 7;else;out d 7;end;end;else;set q 7;end;", "if p;while q;if q;out c 7;else;out d 7;end;end;else;set q 7;end;", "if p;while q;if p;out d 7;else;out d 7;end;end;else;set q 7;end;", "if p;while q;if p;out c 7;else;out d 8;end;end;else;set q 7;end;", "if p;while q;if p;out c 7;else;end;end;else;set q 7;end;", "if p;while q;if p;out c 7;else;out d 7;end;end;else;set p 7;end;", "if p;while q;if p;out c 7;else;out d 7;end;end;end;", "if p;while q;if p;out c 7;else;out d 7;end;out c 7;end;else;set q 7;end;", "if p;if q;if p;out c 7;else;out d 7;end;end;else;set q 7;end;"} {
		provesNot(t, other, its)
	}
}

func TestLocals(t *testing.T) {
	const nodes = "0 num 0 1;1 set 0 0 0;2 set 0 1 0;3 block 0 1 2;"
	const two = "level lo;level hi;below lo hi;begin;set x 1;set y 1;"
	answers(t, two, "locals 0 0;"+nodes, api.OK, -1)
	answers(t, two, "locals 1 0;"+nodes, api.OK, -1)
	for _, locals := range []string{"locals;", "locals 0;", "locals 0 0 0;", "locals 0 0 0 0;", "locals 2 0;", "locals 0 2;", "locals 2147483647 0;", "locals 0 0 2;", "locals 2;"} {
		answers(t, two, locals+nodes, api.ErrRoot, -1)
		answers(t, two, locals+"0 num 9 9;", api.ErrRoot, -1)
	}
	answers(t, "level l;begin;", "locals;0 block 0;", api.OK, -1)
	answers(t, "level l;begin;", "locals 0;0 block 0;", api.ErrRoot, -1)
}

// TestRulesComeAheadOfTheLastNode: a node that does not follow is told also if the last node is of nothing in the program.
func TestRulesComeAheadOfTheLastNode(t *testing.T) {
	answers(t, flat+"set p 5;", "locals;0 num 0 5;1 set 0 5 0;2 block 0 1;", api.ErrRule, 1)
	answers(t, flat+"set p 5;", "locals;0 num 1 6;1 set 0 0 0;2 block 0 1;", api.ErrRule, 0)
	answers(t, flat+"set p 5;", "locals;0 num 0 6;", api.ErrRoot, -1)
	answers(t, flat+"set p 5;", "locals;0 num 1 6;", api.ErrRule, 0)
	answers(t, flat+"set p 5;", "locals;0 num 0 5;1 set 0 0 0;2 block 0 1;3 block 0 2;", api.ErrRule, 3)
}

// TestLevelsOfAllKinds: whether a part is of the program, levels do not say, as long as all nodes follow.
func TestLevelsOfAllKinds(t *testing.T) {
	const two = "level lo;level hi;below lo hi;cell p lo;cell q hi;begin;"
	answers(t, two+"if p;set q p + 1;end;", "locals;0 var 0 0;1 num 0 1;2 op 0 0 0 1;3 set 0 1 2;4 block 0 3;5 block 0;6 if 0 0 4 5;7 block 0 6;", api.OK, -1)
	answers(t, two+"if p;set q p + 1;end;", "locals;0 var 1 0;1 num 1 1;2 op 1 0 0 1;3 set 1 1 2;4 block 1 3;5 block 1;6 if 1 0 4 5;7 block 1 6;", api.OK, -1)
	answers(t, two+"if p;set q p + 1;end;", "locals;0 var 0 0;1 num 1 1;2 op 1 0 0 1;3 set 1 1 2;4 block 1 3;5 block 0;6 if 0 0 4 5;7 block 0 6;", api.OK, -1)
	answers(t, two+"set q p + p;", "locals;0 var 0 0;1 var 1 0;2 op 1 0 0 1;3 set 0 1 2;4 block 0 3;", api.OK, -1)
}
