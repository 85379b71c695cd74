package flows_test

import (
	"errors"
	"fmt"
	"math"
	"slices"
	"strings"
	"testing"

	"flows/api"
	"flows/flows"
)

// text: a semicolon is a line's end.
func text(s string) string { return strings.ReplaceAll(s, ";", "\n") }

const head = "level low;level high;below low high;cell a low;cell s high;channel pub low;channel sec high;begin;"

// show writes a run's end down as the document's third table does.
func show(x api.Ended) string {
	return fmt.Sprint(x.Cells, x.Sent, x.Done)
}

func TestDocumentsRuns(t *testing.T) {
	const loop = "while a;out pub a;set a a - 1;end;out sec 7;"
	for _, c := range []struct {
		s     string
		cells []uint32
		fuel  int
		want  string
	}{
		{loop, []uint32{2, 0}, 99, "[0 0] [{0 2} {0 1} {1 7}] true"},
		{loop, []uint32{2, 0}, 4, "[1 0] [{0 2}] false"},
		{"set s a + 1;out sec s;", []uint32{4294967295, 3}, 9, "[4294967295 0] [{1 0}] true"},
	} {
		runs(t, head+c.s, c.cells, c.fuel, c.want)
	}
}

func runs(t *testing.T, s string, cells []uint32, fuel int, want string) {
	t.Helper()
	was := slices.Clone(cells)
	x, err := flows.Run(text(s), cells, fuel)
	if got := show(x); err != nil || got != want {
		t.Errorf("P7: %q from %v with %d: %s, %v, want %s", s, cells, fuel, got, err, want)
	}
	if !slices.Equal(was, cells) {
		t.Errorf("P1: %q: the cells that were handed in are now %v", s, cells)
	}
}

func TestStatements(t *testing.T) {
	for _, c := range []struct {
		s    string
		a, h uint32
		want string
	}{
		{"", 4294967295, 2, "[4294967295 2] [] true"},
		{"set a s;set s 5;", 1, 2, "[2 5] [] true"},
		{"if a;out pub 1;else;out pub 2;end;", 9, 0, "[9 0] [{0 1}] true"},
		{"if a;out pub 1;else;out pub 2;end;", 0, 0, "[0 0] [{0 2}] true"},
		{"if a;out pub 1;end;out sec 3;", 0, 0, "[0 0] [{1 3}] true"},
		{"if a;else;if s;out pub 1;else;out pub 2;end;end;", 0, 1, "[0 1] [{0 1}] true"},
		{"while a;end;out pub 1;", 0, 0, "[0 0] [{0 1}] true"},
		{"set i 3;while i;set j 2;while j;out pub i;out sec j;set j j - 1;end;set i i - 1;end;", 0, 0, "[0 0] [{0 3} {1 2} {0 3} {1 1} {0 2} {1 2} {0 2} {1 1} {0 1} {1 2} {0 1} {1 1}] true"},
		{"if 0;set x 5;end;out pub x;", 0, 0, "[0 0] [{0 0}] true"},
		{"set x a + s;out pub x;set x a - s;out pub x;set x a * s;out pub x;set x a < s;out pub x;set x a == s;out pub x;", 4294967295, 2, "[4294967295 2] [{0 1} {0 4294967293} {0 4294967294} {0 0} {0 0}] true"},
		{"set x a - s;out pub x;set x a < s;out pub x;set x x == 1;out pub x;", 3, 5, "[3 5] [{0 4294967294} {0 1} {0 1}] true"},
	} {
		runs(t, head+c.s, []uint32{c.a, c.h}, 99, c.want)
	}
	runs(t, "level a;begin;", nil, 5, "[] [] true")
}

func TestFuel(t *testing.T) {
	// A set is a step, and so is each look: 2 + 2n steps.
	count := func(n int) string { return fmt.Sprintf("level a;begin;set i %d;while i;set i i - 1;end;", n) }
	const each = "level l;cell a l;channel c l;begin;set a 1;out c a;if a;set a 0;else;set a 2;end;while a;end;out c 9;"
	for _, c := range []struct {
		s    string
		fuel int
		want string
	}{
		{"level a;begin;", 0, "[] [] true"}, {"level a;begin;", -1, "[] [] true"},
		{"level a;begin;set x 1;", -1, "[] [] false"}, {"level a;begin;set x 1;", math.MinInt, "[] [] false"}, {"level a;begin;set x 1;", 0, "[] [] false"}, {"level a;begin;set x 1;", 1, "[] [] true"},
		{"level a;begin;if 1;end;", 0, "[] [] false"}, {"level a;begin;if 1;end;", 1, "[] [] true"}, {"level a;begin;while 0;end;", 0, "[] [] false"}, {"level a;begin;while 0;end;", 1, "[] [] true"},
		{count(3), 7, "[] [] false"}, {count(3), 8, "[] [] true"}, {count(3), 9, "[] [] true"},
		{count(999), 1999, "[] [] false"}, {count(999), 2000, "[] [] true"}, {count(999), 2001, "[] [] true"}, {count(999), math.MaxInt, "[] [] true"},
		{count(999) + "set x 1;", 2000, "[] [] false"}, {count(999) + "set x 1;", 2001, "[] [] false"}, {count(999) + "set x 1;", math.MaxInt, "[] [] false"},
		{"level a;begin;while 1;end;", math.MaxInt, "[] [] false"}, {"level a;begin;while 1;while 1;end;end;", 5, "[] [] false"},
	} {
		runs(t, c.s, nil, c.fuel, c.want)
	}
	for fuel, want := range []string{"[7] [] false", "[1] [] false", "[1] [{0 1}] false", "[1] [{0 1}] false", "[0] [{0 1}] false", "[0] [{0 1}] false", "[0] [{0 1} {0 9}] true", "[0] [{0 1} {0 9}] true"} {
		runs(t, each, []uint32{7}, fuel, want)
	}
	x, err := flows.Run(text("level l;channel c l;begin;while 1;out c 3;end;"), nil, 1<<40)
	if err != nil || len(x.Sent) != api.MaxFuel/2 || x.Done {
		t.Errorf("P7: of 2,000 steps every second one goes out: %d, %v", len(x.Sent), err)
	}
}

func TestCells(t *testing.T) {
	for n := range 9 {
		if n == 2 {
			continue
		}
		x, err := flows.Run(text(head+"set a 1;"), make([]uint32, n), 9)
		e, at := api.Tell(err)
		if e != api.ErrCells || at != -1 || !errors.Is(err, api.ErrCells) || !isZero(x) {
			t.Errorf("P7: %d cells: %v, %v", n, x, err)
		}
	}
	_, err := flows.Run(text("level a;begin;"), []uint32{1}, 9)
	if e, at := api.Tell(err); e != api.ErrCells || at != -1 {
		t.Errorf("P7: a cell too many: %v", err)
	}
	runs(t, "level l;cell a l;cell b l;cell c l;cell d l;cell e l;cell f l;begin;set f a;", []uint32{1, 2, 3, 4, 5, 6}, 9, "[1 2 3 4 5 1] [] true")
}

func isZero(x api.Ended) bool { return x.Cells == nil && x.Sent == nil && !x.Done }

// TestFaultsComeFirst: also ahead of cells and bytes that are wrong, and in each of the three calls.
func TestFaultsComeFirst(t *testing.T) {
	for _, c := range []struct {
		s     string
		errno api.Errno
		place int
	}{
		{strings.Repeat("x", api.MaxText+1), api.ErrLong, 0}, {"", api.ErrSyntax, 1}, {"level a;", api.ErrPlace, 2}, {"level a;level b;begin;", api.ErrLattice, 3},
		{head + "out pub x;", api.ErrName, 9}, {head + "out pub s;out pub x;", api.ErrName, 10}, {head + "if 1;if 1;if 1;if 1;", api.ErrLimit, 12},
	} {
		x, runErr := flows.Run(text(c.s), make([]uint32, 7), -1)
		b, inferErr := flows.Infer(text(c.s))
		for i, err := range []error{runErr, inferErr, flows.Check(text(c.s), nil), flows.Check(text(c.s), []byte("FP2"))} {
			var at *api.At
			if e, place := api.Tell(err); e != c.errno || place != c.place || !errors.As(err, &at) || !errors.Is(err, c.errno) {
				t.Errorf("P5: %q, call %d: %v, want %d at %d", c.s, i, err, c.errno, c.place)
			}
		}
		if !isZero(x) || b != nil {
			t.Errorf("P1: %q: something comes out beside an error: %v, %v", c.s, x, b)
		}
	}
}

func TestNewMemory(t *testing.T) {
	cells := make([]uint32, 2, 20)
	spare := cells[:20]
	first, _ := flows.Run(text(head+"set x 5;out pub 1;out sec 2;"), cells, 9)
	second, _ := flows.Run(text(head+"set x 5;out pub 1;out sec 2;"), cells, 9)
	for i := range first.Cells[:cap(first.Cells)] {
		first.Cells[:cap(first.Cells)][i] = 77
	}
	for i := range first.Sent[:cap(first.Sent)] {
		first.Sent[:cap(first.Sent)][i] = api.Sent{Channel: 77, Value: 77}
	}
	if slices.Contains(spare, 77) || show(second) != "[0 0] [{0 1} {1 2}] true" {
		t.Errorf("P1: what comes out is no new memory: %v, %v", spare, second)
	}
}

// TestNoPanics: a program with each byte changed, left out or doubled; every call ends, twice with the same answer.
func TestNoPanics(t *testing.T) {
	whole := text(head + "set x s + 1;while a;set a a - 1;if a;out sec x;else;set y 10;end;end;")
	errnos := map[api.Errno]int{}
	try := func(s string) {
		x, err := flows.Run(s, []uint32{3, 4}, 50)
		again, same := flows.Run(s, []uint32{3, 4}, 50)
		if show(x) != show(again) || fmt.Sprint(err) != fmt.Sprint(same) {
			t.Errorf("P1: Run(%q) answers differently: %v, %v", s, x, again)
		}
		errno, place := api.Tell(err)
		errnos[errno]++
		if err != nil && !isZero(x) || errno < 0 || errno >= api.ErrFlow && errno != api.ErrCells || (place < 1) != (errno == api.OK || errno == api.ErrCells) {
			t.Errorf("P1: Run(%q): %v, %v", s, x, err)
		}
	}
	for i := range whole {
		try(whole[:i])
		try(whole[i:])
		try(whole[:i] + whole[i+1:])
		for _, c := range []byte("\n\x00\xff 0az-+=<*") {
			try(whole[:i] + string([]byte{c}) + whole[i+1:])
			try(whole[:i] + string([]byte{c}) + whole[i:])
		}
	}
	for _, errno := range []api.Errno{api.OK, api.ErrSyntax, api.ErrPlace, api.ErrName} {
		if errnos[errno] == 0 {
			t.Errorf("no text had error %d: the test tells little", errno)
		}
	}
}
