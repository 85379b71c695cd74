package infer

import (
	"errors"
	"strings"
	"testing"

	"flows/api"
	"flows/check"
	"flows/proof"
)

// text: a semicolon is a line's end.
func text(s string) string { return strings.ReplaceAll(s, ";", "\n") }

// head: two levels, a cell and a channel of each; the first line behind it is line 9.
const head = "level low;level high;below low high;cell a low;cell s high;channel pub low;channel sec high;begin;"

// four: the highest level is 0, the lowest one 3, 1 and 2 are side by side; the first line behind it is line 16.
const four = "level top;level left;level right;level bot;below bot left;below bot right;below left top;below right top;cell l left;cell r right;cell t top;cell b bot;channel c top;channel d left;begin;"

// finds: what is found is the proof of this text, and Check says nil of it.
func finds(t *testing.T, s, want string) {
	t.Helper()
	p := read(t, text(s))
	found, err := Proof(p)
	if err != nil {
		t.Errorf("P13: %q: %v", s, err)
		return
	}
	if got := proof.Text(found); got != text(want) {
		t.Errorf("P13: %q: %q, want %q", s, strings.ReplaceAll(got, "\n", ";"), want)
	}
	if err := check.Proof(p, found); err != nil {
		t.Errorf("P12: %q: what is found does not prove it: %v", s, err)
	}
}

// findsLevels: there is a proof with these levels of local variables.
func findsLevels(t *testing.T, s, want string) {
	t.Helper()
	found, err := Proof(read(t, text(s)))
	if err != nil {
		t.Errorf("P13: %q: %v", s, err)
		return
	}
	if got, _, _ := strings.Cut(proof.Text(found), "\n"); got != want {
		t.Errorf("P13: %q: %q, want %q", s, got, want)
	}
}

// flowsDown: that line is told.
func flowsDown(t *testing.T, s string, line int) {
	t.Helper()
	found, err := Proof(read(t, text(s)))
	var at *api.At
	if e, place := api.Tell(err); e != api.ErrFlow || place != line || !errors.As(err, &at) || !errors.Is(err, api.ErrFlow) {
		t.Errorf("P13: %q: %v, want line %d", s, err, line)
	}
	if found.Locals != nil || found.Nodes != nil {
		t.Errorf("P1: %q: something comes out beside an error: %v", s, found)
	}
}

func TestNoStatements(t *testing.T) {
	finds(t, "level a;begin;", "locals;0 block 0;")
	finds(t, head, "locals;0 block 0;")
	finds(t, four, "locals;0 block 3;")
}

func TestLevelsByValues(t *testing.T) {
	findsLevels(t, head+"set x 1;", "locals 0")
	findsLevels(t, head+"set x a;set y s;", "locals 0 1")
	findsLevels(t, head+"set x a + 1;set y x * s;set z 2 < y;set w z == a;", "locals 0 1 1 1")
	findsLevels(t, head+"set x s;set x a;", "locals 1")
	findsLevels(t, four+"set x 1;set y l;set z r;set w t;", "locals 3 1 2 0")
	findsLevels(t, four+"set x l + r;set y l - b;set z b + b;set w r < r;", "locals 0 1 3 2")
	// A local variable that is set by both of two side by side is of their join, too.
	findsLevels(t, four+"set x l;set y x;set x r;", "locals 0 0")
}

func TestLevelsRiseAgain(t *testing.T) {
	// By a line further down, by way of one variable, and of two.
	findsLevels(t, head+"set x 0;set y x;set x s;", "locals 1 1")
	findsLevels(t, head+"set x 0;set y x;set z y;set x s;", "locals 1 1 1")
	findsLevels(t, head+"set x 0;set y 0;set z 0;set z y;set y x;set x s;", "locals 1 1 1")
	findsLevels(t, head+"set x 0;set y 0;set z 0;set w 0;while a;set w z;set z y;set y x;set x s;end;", "locals 1 1 1 1")
	// By a value of an if or while that is higher because of a line further down.
	findsLevels(t, head+"set x 0;set y 0;while a;if x;set y 1;end;set x s;end;", "locals 1 1")
	findsLevels(t, head+"set x 1;set y 0;while x;set y 1;set x s;end;", "locals 1 1")
	findsLevels(t, head+"set x 1;while x;set x x - 1;set y x;end;", "locals 0 0")
	// Twice: first to one side, then to the join of both.
	findsLevels(t, four+"set x l;set y x;set z y;set y r;set x y;", "locals 0 0 0")
	findsLevels(t, four+"set x b;set y x;set x l;set z y;set w z;set z r;", "locals 1 1 0 0")
}

func TestLevelsByWhatTheyAreDoneUnder(t *testing.T) {
	findsLevels(t, head+"if s;set x 1;end;", "locals 1")
	findsLevels(t, head+"if s;else;set x 1;end;", "locals 1")
	findsLevels(t, head+"if s;set x 1;else;set y 1;end;set z 1;", "locals 1 1 0")
	findsLevels(t, head+"while s;set x 1;end;set y 1;", "locals 1 0")
	findsLevels(t, head+"if a;set x 1;if s;set y 1;end;set z 1;end;", "locals 0 1 0")
	findsLevels(t, head+"if s;if a;set x 1;end;end;", "locals 1")
	findsLevels(t, head+"while s;if 1;else;while a;set x 0;end;end;end;set y 0;", "locals 1 0")
	findsLevels(t, head+"if a;if a;while a;set x 0;end;end;else;if 5;set y 2;end;end;", "locals 0 0")
	findsLevels(t, four+"if l;set x 1;set y r;if r;set z b;end;end;if r;set w 1;end;", "locals 1 0 0 2")
	findsLevels(t, four+"if l;else;if b;else;set x 1;end;end;while r;while l;set y 2;end;end;", "locals 1 0")
}

func TestFlowsDownByValue(t *testing.T) {
	flowsDown(t, head+"out pub s;", 9)
	flowsDown(t, head+"set a s;", 9)
	flowsDown(t, head+"set a 1;set a s + a;", 10)
	flowsDown(t, head+"set a a - s;", 9)
	flowsDown(t, head+"set x s;out pub x;", 10)
	flowsDown(t, head+"set x s;set x 0;out pub x;", 11)
	flowsDown(t, head+"set x 0;set y 0;while a;out pub y;set y x;set x s;end;", 12)
	flowsDown(t, four+"set l r;", 16)
	flowsDown(t, four+"set b 1;set b l;", 17)
	flowsDown(t, four+"set r l;", 16)
	flowsDown(t, four+"out d r;", 16)
	flowsDown(t, four+"out d t;", 16)
	flowsDown(t, four+"set x l + r;set t x;out c x;out d x;", 19)
}

func TestFlowsDownByWhatItIsDoneUnder(t *testing.T) {
	flowsDown(t, head+"if s;out pub 1;end;", 10)
	flowsDown(t, head+"if s;else;set a 1;end;", 11)
	flowsDown(t, head+"if s;set s a;else;out pub 1;end;", 12)
	flowsDown(t, head+"while s;set a a;end;", 10)
	flowsDown(t, head+"if s;if a;set a 1;end;end;", 11)
	flowsDown(t, head+"if a;while s;if 1;out pub 1;end;end;end;", 12)
	flowsDown(t, head+"set x 0;if x;out pub 1;end;set x s;", 11)
	flowsDown(t, four+"if l;set r 1;end;", 17)
	flowsDown(t, four+"if l;if r;set l 1;end;end;", 18)
	flowsDown(t, four+"if r;out d l;end;", 17)
	flowsDown(t, four+"while b;set b 1;end;while l;set b 1;end;", 20)
}

func TestFirstOfTwoLines(t *testing.T) {
	flowsDown(t, head+"out pub a;out pub s;set a s;", 10)
	flowsDown(t, head+"set a s;out pub s;", 9)
	flowsDown(t, head+"if s;set x 1;out pub 1;else;set a 1;end;out pub x;", 11)
	flowsDown(t, head+"if a;else;out pub s;end;set a s;", 11)
	// The value of the first one is secret by a line behind the second one.
	flowsDown(t, head+"set x 0;out pub x;out pub s;set x s;", 10)
}

// TestWhatStaysIn: up, or along, all may go.
func TestWhatStaysIn(t *testing.T) {
	for _, s := range []string{
		"out sec s;set s a;", "if s;set s 1;out sec a;end;out pub a;set a 1;", "while s;set x s;set s s - 1;end;out pub 1;out sec x;", "if a;out pub a;set a 2;else;out pub 3;end;while a;set a a - 1;end;", "set x a;out pub x;set s x;set y s;out sec y;",
	} {
		if _, err := Proof(read(t, text(head+s))); err != nil {
			t.Errorf("P13: %q: %v", s, err)
		}
	}
	for _, s := range []string{"out c l;out c r;out d l;out d b;set t l + r;set l b;set r b + r;", "if b;set l 1;set r 1;out d 1;end;if l;set l b;out d l;set t r;out c r;end;if r;if l;set t 1;out c 2;end;end;"} {
		if _, err := Proof(read(t, text(four+s))); err != nil {
			t.Errorf("P13: %q: %v", s, err)
		}
	}
}

func TestValuesStandOnce(t *testing.T) {
	finds(t, head+"set a a * a;", "locals;0 var 0 0;1 op 0 2 0 0;2 set 0 0 1;3 block 0 2;")
	finds(t, head+"set s s - a;set s a - s;set s a - s;", "locals;0 var 1 1;1 var 0 0;2 op 1 1 0 1;3 set 0 1 2;4 op 1 1 1 0;5 set 0 1 4;6 block 0 3 5 5;")
	finds(t, head+"set a 1 + 2;set a 2 - 1;set s 1 + 2;out sec 2;", "locals;0 num 0 1;1 num 0 2;2 op 0 0 0 1;3 set 0 0 2;4 op 0 1 1 0;5 set 0 0 4;6 set 0 1 2;7 out 0 1 1;8 block 0 3 5 6 7;")
	// A number and a variable with the same number are not the same, nor are operations.
	finds(t, head+"set a 0;set a a;set a a < a;set a a == a;", "locals;0 num 0 0;1 set 0 0 0;2 var 0 0;3 set 0 0 2;4 op 0 3 2 2;5 set 0 0 4;6 op 0 4 2 2;7 set 0 0 6;8 block 0 1 3 5 7;")
	// A number's level is the lowest one, wherever it stands.
	finds(t, head+"if s;set s 1;end;set s 1;", "locals;0 var 1 1;1 num 0 1;2 set 1 1 1;3 block 1 2;4 block 1;5 if 0 0 3 4;6 set 0 1 1;7 block 0 5 6;")
	finds(t, head+"set s 999999999;", "locals;0 num 0 999999999;1 set 0 1 0;2 block 0 1;")
	finds(t, four+"set t l + r;set t r + l;", "locals;0 var 1 0;1 var 2 1;2 op 0 0 0 1;3 set 3 2 2;4 op 0 0 1 0;5 set 3 2 4;6 block 3 3 5;")
}

func TestStatementsStandOnce(t *testing.T) {
	finds(t, head+"out pub 1;out pub 1;out sec 1;set a 1;set s 1;out pub 1;", "locals;0 num 0 1;1 out 0 0 0;2 out 0 1 0;3 set 0 0 0;4 set 0 1 0;5 block 0 1 1 2 3 4 1;")
	finds(t, head+"if a;set s a;end;if a;set s a;end;", "locals;0 var 0 0;1 set 0 1 0;2 block 0 1;3 block 0;4 if 0 0 2 3;5 block 0 4 4;")
	finds(t, head+"while a;set a 1;end;set a 1;while a;set a 1;end;", "locals;0 var 0 0;1 num 0 1;2 set 0 0 1;3 block 0 2;4 while 0 0 3;5 block 0 4 2 4;")
	// Done under another level it is another one.
	finds(t, head+"set s 1;while s;set s 1;end;", "locals;0 num 0 1;1 set 0 1 0;2 var 1 1;3 set 1 1 0;4 block 1 3;5 while 0 2 4;6 block 0 1 5;")
	finds(t, head+"set x s + 1;if a;out sec x;end;set x s + 1;", "locals 1;0 var 1 1;1 num 0 1;2 op 1 0 0 1;3 set 0 2 2;4 var 0 0;5 var 1 2;6 out 0 1 5;7 block 0 6;8 block 0;9 if 0 4 7 8;10 block 0 3 9 3;")
}

func TestBlocksStandOnce(t *testing.T) {
	finds(t, head+"if a;set a 1;else;set a 1;end;", "locals;0 var 0 0;1 num 0 1;2 set 0 0 1;3 block 0 2;4 if 0 0 3 3;5 block 0 4;")
	finds(t, head+"if a;set a 1;set a 2;else;set a 2;set a 1;end;", "locals;0 var 0 0;1 num 0 1;2 set 0 0 1;3 num 0 2;4 set 0 0 3;5 block 0 2 4;6 block 0 4 2;7 if 0 0 5 6;8 block 0 7;")
	finds(t, head+"while a;end;if a;end;while s;end;", "locals;0 var 0 0;1 block 0;2 while 0 0 1;3 if 0 0 1 1;4 var 1 1;5 block 1;6 while 0 4 5;7 block 0 2 3 6;")
	finds(t, head+"if a;if a;if a;end;end;end;", "locals;0 var 0 0;1 block 0;2 if 0 0 1 1;3 block 0 2;4 if 0 0 3 1;5 block 0 4;6 if 0 0 5 1;7 block 0 6;")
}

func TestIfs(t *testing.T) {
	const without = "locals;0 var 1 1;1 num 0 1;2 set 1 1 1;3 block 1 2;4 block 1;5 if 0 0 3 4;6 block 0 5;"
	finds(t, head+"if s;set s 1;end;", without)
	finds(t, head+"if s;set s 1;else;end;", without)
	finds(t, head+"if s;else;set x 1;end;", "locals 1;0 var 1 1;1 block 1;2 num 0 1;3 set 1 2 2;4 block 1 3;5 if 0 0 1 4;6 block 0 5;")
	finds(t, head+"if s;end;", "locals;0 var 1 1;1 block 1;2 if 0 0 1 1;3 block 0 2;")
	finds(t, head+"if s;else;end;", "locals;0 var 1 1;1 block 1;2 if 0 0 1 1;3 block 0 2;")
	// Within each other: a level falls back behind end.
	finds(t, four+"if l;if r;set t 1;end;set l 1;else;out d 2;end;set b 1;", "locals;0 var 1 0;1 var 2 1;2 num 3 1;3 set 0 2 2;4 block 0 3;5 block 0;6 if 1 1 4 5;7 set 1 0 2;8 block 1 6 7;9 num 3 2;10 out 1 1 9;11 block 1 10;12 if 3 0 8 11;13 set 3 3 2;14 block 3 12 13;")
}

func TestWhiles(t *testing.T) {
	finds(t, head+"while s;while a;out sec 1;end;end;", "locals;0 var 1 1;1 var 0 0;2 num 0 1;3 out 1 1 2;4 block 1 3;5 while 1 1 4;6 block 1 5;7 while 0 0 6;8 block 0 7;")
	finds(t, head+"set x 0;set y 0;while a;set y x;set x s;end;", "locals 1 1;0 num 0 0;1 set 0 2 0;2 set 0 3 0;3 var 0 0;4 var 1 2;5 set 0 3 4;6 var 1 1;7 set 0 2 6;8 block 0 5 7;9 while 0 3 8;10 block 0 1 2 9;")
}

// TestAsManyAsThereMayBe: sixteen statements, one beside the other, and within each other.
func TestAsManyAsThereMayBe(t *testing.T) {
	finds(t, head+strings.Repeat("out pub 7;", 16), "locals;0 num 0 7;1 out 0 0 0;2 block 0"+strings.Repeat(" 1", 16)+";")
	flowsDown(t, head+strings.Repeat("out pub 7;", 15)+"out pub s;", 24)
	findsLevels(t, head+"set w 1;set x w;set y x;set z y;if a;if w;if x;set w s;end;set x w;end;set y x;end;set z y;while z;while y;while x;set z z - y;end;end;end;", "locals 1 1 1 1")
}
