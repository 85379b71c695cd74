package program

import (
	"errors"
	"strings"
	"testing"

	"flows/api"
)

// l and b: the start of most programs here, which has two lines.
const (
	l = "level a;"
	b = l + "begin;"
)

type refusal struct {
	s     string
	errno api.Errno
	line  int
}

// refuses: a text is not read, and what it tells has the line as its place.
func refuses(t *testing.T, promise string, refusals []refusal) {
	t.Helper()
	for _, f := range refusals {
		p, err := Read(text(f.s))
		errno, line := api.Tell(err)
		if errno != f.errno || line != f.line || !errors.Is(err, f.errno) || p != nil {
			t.Errorf("%s: %q: error %d in line %d, want %d in line %d", promise, f.s, errno, line, f.errno, f.line)
		}
	}
}

func accepts(t *testing.T, promise string, texts ...string) {
	t.Helper()
	for _, s := range texts {
		if p, err := Read(text(s)); err != nil || p == nil {
			t.Errorf("%s: %q: %v", promise, s, err)
		}
	}
}

func TestDocumentsFaults(t *testing.T) {
	refuses(t, "Examples", []refusal{
		{"", api.ErrSyntax, 1},
		{"begin", api.ErrSyntax, 1},
		{"level a;", api.ErrPlace, 2},
		{"level a;begin;while 1;else;", api.ErrPlace, 4},
		{"level a;level b;begin;", api.ErrLattice, 3},
		{"level a;level b;level c;below a b;below a c;begin;", api.ErrLattice, 6},
		{"level a;begin;set x x;", api.ErrName, 3},
		{"level a;begin;if 1;if 1;if 1;if 1;", api.ErrLimit, 6},
	})
}

func TestLongTexts(t *testing.T) {
	full := text(l + strings.Repeat("below a a;", 117) + "begin;set x 1;set x 1;")
	if len(full) != api.MaxText {
		t.Fatalf("the text has %d bytes", len(full))
	}
	accepts(t, "P2", full)
	refuses(t, "P2", []refusal{
		{strings.Replace(full, "x 1", "x 10", 1), api.ErrLong, 0},
		{full + ";", api.ErrLong, 0},
		{strings.Repeat("?", api.MaxText), api.ErrSyntax, 1},
		{strings.Repeat("?", api.MaxText+1), api.ErrLong, 0},
		{strings.Repeat(";", 100000), api.ErrLong, 0},
	})
}

func TestSyntax(t *testing.T) {
	for _, line := range []string{
		"", " ", "?", "word", "LEVEL a", "Level a", "levels a", "le vel a", "level\ta",
		"level", "level a b", "level A", "level abcdefg", "level 1", "level a1", "level ä", "level \xff", "level a\x00", "level a\r", "level a_", "level `", "level {",
		" level a", "level  a", "level a ", "level ",
		"below", "below a", "below a a a", "below a 1", "below a  a",
		"cell", "cell x", "cell x a a", "cell 1 a", "cell x 1", "cell toolong a",
		"channel", "channel x", "channel x a a", "channel 1 a", "channel x 1",
		"begin a", "begin ", " begin",
		"set", "set x", "set 1 1", "set x +", "set x 1 +", "set x 1 2", "set x 1 + 2 3", "set x + 1 2", "set x 1 / 2", "set x 1 = 2", "set x 1 <= 2", "set x 1 > 2", "set x 1+2", "set x 1 === 2", "set x 1 +  2", "set x 1 + 2 + 3",
		"set x -1", "set x +1", "set x 01", "set x 00", "set x 1234567890", "set x 1000000000", "set x 0000000001", "set x 1a", "set x 0x1", "set x toolong", "set x A", "set x 1 + 01", "set x 1 + -1", "set x \u0661", "set x 1.0",
		"out", "out c", "out 1 1", "out c 1 1", "out c 1 + 1", "out c 01", "out toolong 1",
		"if", "if 1 1", "if 1 + 1", "if 01", "if X", "while", "while 1 1", "while 1 + 1", "while 00", "while X",
		"else 1", "else ", "end 1", "end ", "end if", "else if 1",
	} {
		refuses(t, "P3", []refusal{{line + ";", api.ErrSyntax, 1}, {l + line + ";", api.ErrSyntax, 2}, {b + line + ";", api.ErrSyntax, 3}, {b + "if 1;" + line + ";end;", api.ErrSyntax, 4}})
	}
}

func TestLinesThatAreNotEnded(t *testing.T) {
	refuses(t, "P3", []refusal{
		{"level a", api.ErrSyntax, 1}, {l + "begin", api.ErrSyntax, 2}, {b + "set x 1", api.ErrSyntax, 3}, {b + "if 1;end", api.ErrSyntax, 4},
		{b + " ", api.ErrSyntax, 3}, {b + ";", api.ErrSyntax, 3}, {";", api.ErrSyntax, 1},
		{l + "level a", api.ErrSyntax, 2}, {b + "end", api.ErrSyntax, 3}, {"level a;level b;begin", api.ErrSyntax, 3},
	})
	accepts(t, "P3", b, b+"if 1;end;")
}

func TestPlaces(t *testing.T) {
	refuses(t, "P3", []refusal{
		{b + "level b;", api.ErrPlace, 3}, {b + "below a a;", api.ErrPlace, 3}, {b + "cell x a;", api.ErrPlace, 3}, {b + "channel x a;", api.ErrPlace, 3}, {b + "begin;", api.ErrPlace, 3},
		{b + "if 1;level b;end;", api.ErrPlace, 4}, {b + "set x 1;begin;", api.ErrPlace, 4},
		{"set x 1;", api.ErrPlace, 1}, {l + "set x 1;", api.ErrPlace, 2}, {l + "set x 1 + 1;", api.ErrPlace, 2}, {l + "channel c a;out c 1;", api.ErrPlace, 3}, {l + "if 1;", api.ErrPlace, 2}, {l + "while 1;", api.ErrPlace, 2}, {l + "else;", api.ErrPlace, 2}, {l + "end;", api.ErrPlace, 2},
		{b + "else;", api.ErrPlace, 3}, {b + "while 1;else;end;", api.ErrPlace, 4}, {b + "if 1;else;else;end;", api.ErrPlace, 5}, {b + "if 1;while 1;else;end;end;", api.ErrPlace, 5}, {b + "if 1;end;else;", api.ErrPlace, 5}, {b + "while 1;if 1;end;else;end;", api.ErrPlace, 6}, {b + "if 1;else;if 1;end;else;end;", api.ErrPlace, 7},
		{b + "end;", api.ErrPlace, 3}, {b + "if 1;end;end;", api.ErrPlace, 5}, {b + "while 1;end;set x 1;end;", api.ErrPlace, 6},
	})
	accepts(t, "P3", b+"if 1;while 1;end;else;end;", b+"if 1;else;if 1;else;end;end;", b+"while 1;if 1;else;end;end;")
}

// TestBehindTheLastLine: its number is one more than there are lines.
func TestBehindTheLastLine(t *testing.T) {
	refuses(t, "P3", []refusal{
		{l, api.ErrPlace, 2}, {l + "below a a;cell x a;", api.ErrPlace, 4}, {"level a;level b;", api.ErrPlace, 3},
		{b + "if 1;", api.ErrPlace, 4}, {b + "while 1;", api.ErrPlace, 4}, {b + "if 1;else;", api.ErrPlace, 5}, {b + "if 1;while 1;end;", api.ErrPlace, 6}, {b + "if 1;set x 1;", api.ErrPlace, 5},
	})
}

func TestLattices(t *testing.T) {
	const six = "level p;level q;level r;level s;level t;level u;"
	refuses(t, "P4", []refusal{
		{"begin;", api.ErrLattice, 1},
		{l + "level b;begin;", api.ErrLattice, 3},
		{l + "level b;below a b;below b a;begin;", api.ErrLattice, 5},
		{l + "level b;level c;below a b;below b c;below c a;begin;", api.ErrLattice, 7},
		{l + "level b;level c;below a b;below a c;begin;", api.ErrLattice, 6},
		{l + "level b;level c;below b a;below c a;begin;", api.ErrLattice, 6},
		{six + "below p q;below p r;below q s;below q t;below r s;below r t;below s u;below t u;begin;", api.ErrLattice, 15},
	})
	accepts(t, "P4",
		b, l+"below a a;begin;", l+"level b;below b a;begin;", l+"level b;below a b;below a b;begin;",
		six+"below p q;below p r;below p s;below p t;below q u;below r u;below s u;below t u;begin;",
		six+"below t u;below s t;below r s;below q r;below p q;begin;",
	)
}

func TestNames(t *testing.T) {
	refuses(t, "P3", []refusal{
		{l + l, api.ErrName, 2}, {l + "level b;" + l, api.ErrName, 3},
		{"below a b;", api.ErrName, 1}, {l + "below a b;", api.ErrName, 2}, {l + "below b a;", api.ErrName, 2}, {l + "below b b;level b;", api.ErrName, 2},
		{l + "cell x b;", api.ErrName, 2}, {l + "channel x b;", api.ErrName, 2}, {l + "cell x x;", api.ErrName, 2}, {"cell x a;" + l, api.ErrName, 1},
		{l + "cell x a;cell x a;", api.ErrName, 3}, {l + "cell x a;channel x a;", api.ErrName, 3}, {l + "channel x a;cell x a;", api.ErrName, 3}, {l + "channel x a;channel x a;", api.ErrName, 3},
		{b + "set x y;", api.ErrName, 3}, {b + "set x x;", api.ErrName, 3}, {b + "set x x + 1;", api.ErrName, 3}, {b + "set x 1 + x;", api.ErrName, 3}, {b + "set x a;", api.ErrName, 3},
		{b + "set x 1;set y x + z;", api.ErrName, 4}, {b + "set x 1;set y z + x;", api.ErrName, 4}, {b + "set x y;set y 1;", api.ErrName, 3},
		{b + "if x;end;", api.ErrName, 3}, {b + "while x;set x 1;end;", api.ErrName, 3},
		{b + "out c 1;", api.ErrName, 3}, {l + "cell c a;begin;out c 1;", api.ErrName, 4}, {b + "set c 1;out c 1;", api.ErrName, 4}, {b + "out a 1;", api.ErrName, 3},
		{l + "channel c a;begin;out c x;", api.ErrName, 4}, {l + "channel c a;begin;out c c;", api.ErrName, 4}, {l + "channel c a;begin;if c;end;", api.ErrName, 4},
		{l + "channel c a;begin;set c 1;", api.ErrName, 4}, {l + "channel c a;begin;set x c;", api.ErrName, 4},
	})
	accepts(t, "P3", l+"cell a a;begin;set a a;", l+"channel a a;begin;out a 1;", b+"set a 1;set b a;", l+"cell x a;begin;set x x + x;", b+"if 0;set x 1;end;while x;end;")
}

// numbered: a line for each of the names, the question mark in it being the name.
func numbered(line string, names string) string {
	all := ""
	for _, name := range names {
		all += strings.ReplaceAll(line, "?", string(name))
	}
	return all
}

func TestLimits(t *testing.T) {
	sets := func(n int) string { return strings.Repeat("set x 1;", n) }
	accepts(t, "P3",
		numbered("level ?;", "abcdef")+"below a b;below b c;below c d;below d e;below e f;begin;",
		l+numbered("cell ? a;", "pqrstu")+"begin;", l+numbered("channel ? a;", "pqr")+"begin;",
		l+numbered("cell ? a;", "pqrstu")+numbered("channel ? a;", "xyz")+"begin;"+numbered("set ? 1;", "abcd"),
		b+numbered("set ? 1;", "wxyz")+numbered("set ? 1;", "wxyz"),
		b+sets(16), b+"if 1;"+sets(7)+"else;"+sets(7)+"end;set x 1;", b+"while 1;end;if 1;else;end;"+sets(14),
		b+"if 1;while 1;if 1;end;end;end;", b+"while 1;if 1;else;while 1;end;if 1;end;end;end;while 1;end;",
		"level abcdef;cell abcdef abcdef;begin;set uvwxyz 999999999;",
	)
	refuses(t, "P3", []refusal{
		{numbered("level ?;", "abcdefg"), api.ErrLimit, 7},
		{l + numbered("cell ? a;", "pqrstuv"), api.ErrLimit, 8},
		{l + numbered("channel ? a;", "pqrs"), api.ErrLimit, 5},
		{b + numbered("set ? 1;", "vwxyz"), api.ErrLimit, 7},
		{l + "cell c a;begin;set c 1;" + numbered("set ? 1;", "vwxyz"), api.ErrLimit, 9},
		{b + sets(17), api.ErrLimit, 19},
		{b + sets(16) + "if 1;end;", api.ErrLimit, 19}, {b + sets(16) + "while 1;end;", api.ErrLimit, 19}, {l + "channel c a;begin;" + sets(16) + "out c 1;", api.ErrLimit, 20},
		{b + "if 1;" + sets(8) + "else;" + sets(7) + "end;set x 1;", api.ErrLimit, 21},
		{b + "if 1;if 1;if 1;if 1;", api.ErrLimit, 6}, {b + "while 1;while 1;while 1;while 1;", api.ErrLimit, 6}, {b + "if 1;while 1;else;", api.ErrPlace, 5}, {b + "while 1;if 1;else;if 1;else;while 1;", api.ErrLimit, 8},
	})
}

// TestTwoFaults: of one line the first in P3's order counts, of several lines the first one.
func TestTwoFaults(t *testing.T) {
	full := numbered("level ?;", "abcdef")
	cells := l + numbered("cell ? a;", "pqrstu")
	channels := l + numbered("channel ? a;", "pqr")
	sets := b + strings.Repeat("set x 1;", 16)
	deep := b + "if 1;if 1;if 1;"
	refuses(t, "P3", []refusal{
		{b + "level A;", api.ErrSyntax, 3}, {b + "else x;", api.ErrSyntax, 3}, {l + "set x 01;", api.ErrSyntax, 2}, {b + "set x y / z;", api.ErrSyntax, 3}, {sets + "set x 1 +;", api.ErrSyntax, 19}, {sets + "set x 1", api.ErrSyntax, 19}, {"level a;level b;begin x;", api.ErrSyntax, 3},
		{b + l, api.ErrPlace, 3}, {b + "below a b;", api.ErrPlace, 3}, {b + "cell x q;", api.ErrPlace, 3}, {l + "cell x a;begin;channel x a;", api.ErrPlace, 4}, {l + "set x y;", api.ErrPlace, 2}, {l + "out c 1;", api.ErrPlace, 2}, {l + "if x;", api.ErrPlace, 2}, {full + "below a b;below b c;below c d;below d e;below e f;begin;level g;", api.ErrPlace, 13}, {"end;", api.ErrPlace, 1},
		{full + "level a;", api.ErrName, 7}, {cells + "cell p a;", api.ErrName, 8}, {cells + "cell x b;", api.ErrName, 8}, {channels + "channel p a;", api.ErrName, 5}, {channels + "channel x b;", api.ErrName, 5},
		{b + numbered("set ? 1;", "vwxy") + "set z q;", api.ErrName, 7}, {b + numbered("set ? 1;", "vwxy") + "set z z;", api.ErrName, 7}, {sets + "set x q;", api.ErrName, 19}, {sets + "out c 1;", api.ErrName, 19}, {sets + "if q;", api.ErrName, 19}, {deep + "if q;", api.ErrName, 6}, {deep + "while q;", api.ErrName, 6},
		{l + "below a b;?;", api.ErrName, 2}, {b + "end;?;", api.ErrPlace, 3}, {l + "level b;begin;?;", api.ErrLattice, 3}, {sets + "set x 1;?", api.ErrLimit, 19}, {b + "set x y;set x 1", api.ErrName, 3}, {b + "if 1;set x x;", api.ErrName, 4},
	})
}
