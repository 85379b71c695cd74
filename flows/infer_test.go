package flows_test

import (
	"fmt"
	"slices"
	"strings"
	"testing"

	"flows/api"
	"flows/flows"
)

func TestDocumentsFindings(t *testing.T) {
	for s, want := range map[string]string{head + wholeBody: wholeBytes, "level a;begin;": emptyBytes, head: emptyBytes} {
		if b, err := flows.Infer(text(s)); err != nil || string(b) != want {
			t.Errorf("P13: Infer(%q) = %q, %v, want %q", s, b, err, want)
		}
	}
	for s, line := range map[string]int{"out pub s;": 9, "set x s;out pub x;": 10, "if s;if a;set a 1;end;end;": 11} {
		if b, err := flows.Infer(text(head + s)); !isFault(err, api.ErrFlow, line) || b != nil {
			t.Errorf("P13: Infer(%q) = %q, %v, want line %d", s, b, err, line)
		}
	}
	s := text(head + "out sec s;set s a;")
	if b, err := flows.Infer(s); err != nil || flows.Check(s, b) != nil {
		t.Errorf("P13: Infer(%q) = %q, %v", s, b, err)
	}
}

// TestFaultsComeAheadOfFlows: what flows down in a line ahead of the fault is not told.
func TestFaultsComeAheadOfFlows(t *testing.T) {
	for _, c := range []struct {
		s     string
		errno api.Errno
		line  int
	}{
		{"out pub s;set a s", api.ErrSyntax, 10}, {"out pub s;end;", api.ErrPlace, 10}, {"if s;out pub 1;", api.ErrPlace, 11}, {"out pub s;set x y;", api.ErrName, 10}, {"if s;set x x;end;", api.ErrName, 10}, {"set a s;set w 1;set x 1;set y 1;set z 1;set v 1;", api.ErrLimit, 14}, {strings.Repeat("out pub s;", 17), api.ErrLimit, 25},
	} {
		if b, err := flows.Infer(text(head + c.s)); !isFault(err, c.errno, c.line) || b != nil {
			t.Errorf("P5: Infer(%q) = %q, %v, want %d at %d", c.s, b, err, c.errno, c.line)
		}
	}
	long := text(head+"out pub s;") + strings.Repeat("x", api.MaxText)
	if b, err := flows.Infer(long); !isFault(err, api.ErrLong, 0) || b != nil {
		t.Errorf("P5: Infer of a text that is too long: %q, %v", b, err)
	}
}

// provenPrograms: each with its secret at work, in values, by ifs and by whiles.
var provenPrograms = []string{
	wholeBody,
	"set x s + a;if x;set s 5;end;out sec x;out pub a;",
	"while s;set s s - 1;end;out pub a;set a a + 1;out sec s;",
	"set i a;while i;set i i - 1;if s;set s s * i;else;set s a;end;out pub i;end;",
	"set x 1;if s;set x 2;else;set x 3;end;out sec x;while x;set x x - 1;out sec a;end;set a a * a;out pub a;",
	"set t s < 2;if t;set y a;if a;set y s;out sec y;end;end;out pub a;",
}

func TestSecretsAreKept(t *testing.T) {
	apart := 0
	for _, body := range provenPrograms {
		s := text(head + body)
		b, err := flows.Infer(s)
		if err != nil || flows.Check(s, b) != nil {
			t.Errorf("P13: Infer(%q) = %q, %v", s, b, err)
			continue
		}
		for a := range uint32(4) {
			first := runOf(t, s, a, 0)
			for secret := range uint32(6) {
				x := runOf(t, s, a, secret)
				if x.Cells[0] != first.Cells[0] || !slices.Equal(public(x), public(first)) {
					t.Errorf("P14: %q: by %d in place of 0 it tells %v, not %v", s, secret, x, first)
				}
				if show(x) != show(first) {
					apart++
				}
			}
		}
	}
	if apart == 0 {
		t.Error("no run knows its secret: the test tells nothing")
	}
}

func runOf(t *testing.T, s string, a, secret uint32) api.Ended {
	t.Helper()
	x, err := flows.Run(s, []uint32{a, secret}, 500)
	if err != nil || !x.Done {
		t.Fatalf("P7: %q does not come to its end: %v, %v", s, x, err)
	}
	return x
}

// public is what went out on the lower channel.
func public(x api.Ended) []api.Sent {
	return slices.DeleteFunc(slices.Clone(x.Sent), func(one api.Sent) bool { return one.Channel != 0 })
}

func TestFindingsAreNewMemory(t *testing.T) {
	s := text(head + wholeBody)
	first, _ := flows.Infer(s)
	second, _ := flows.Infer(s)
	for i := range first[:cap(first)] {
		first[:cap(first)][i] = 0xff
	}
	third, _ := flows.Infer(s)
	if string(second) != wholeBytes || string(third) != wholeBytes {
		t.Errorf("P1: what comes out is no new memory: %q, %q", second, third)
	}
}

// TestNoPanicsOfFindings: a program with each byte changed, left out or doubled; what is found is a proof of it, and the same twice.
func TestNoPanicsOfFindings(t *testing.T) {
	whole := text(head + "set x s + 1;while a;set a a - 1;if a;out sec x;else;set y 10;end;set a y;end;")
	errnos := map[api.Errno]int{}
	try := func(s string) {
		b, err := flows.Infer(s)
		again, same := flows.Infer(s)
		if string(b) != string(again) || fmt.Sprint(err) != fmt.Sprint(same) {
			t.Errorf("P1: Infer(%q) answers differently: %q, %q", s, b, again)
		}
		errno, place := api.Tell(err)
		errnos[errno]++
		if (errno == api.OK) != (b != nil) || errno < 0 || errno > api.ErrFlow || (place < 1) != (errno == api.OK) {
			t.Errorf("P13: Infer(%q) = %q, %v", s, b, err)
		}
		if errno == api.OK && flows.Check(s, b) != nil {
			t.Errorf("P12: Check says %v of what Infer(%q) tells", flows.Check(s, b), s)
		}
	}
	for i := range whole {
		try(whole[:i])
		try(whole[i:])
		try(whole[:i] + whole[i+1:])
		for _, c := range []byte("\n\x00\xff 0azsx-+=<*") {
			try(whole[:i] + string([]byte{c}) + whole[i+1:])
			try(whole[:i] + string([]byte{c}) + whole[i:])
		}
	}
	for _, errno := range []api.Errno{api.OK, api.ErrSyntax, api.ErrPlace, api.ErrName, api.ErrFlow} {
		if errnos[errno] == 0 {
			t.Errorf("no text had error %d: the test tells little", errno)
		}
	}
}
