package flows_test

import (
	"fmt"
	"strings"
	"testing"

	"flows/api"
	"flows/flows"
)

// wholeBody is what the document's last paragraph proves, behind its head.
const wholeBody = "set x s + 1;if a;out sec x;end;set x s + 1;"

func TestDocumentsProofsProve(t *testing.T) {
	for s, bytes := range map[string]string{head + wholeBody: wholeBytes, "level a;begin;": emptyBytes, head: emptyBytes} {
		if err := flows.Check(text(s), []byte(bytes)); err != nil {
			t.Errorf("P12: Check(%q, %q): %v", s, bytes, err)
		}
	}
}

// TestWhatCheckTellsFirst: each of these is wrong in all that comes behind it, too.
func TestWhatCheckTellsFirst(t *testing.T) {
	const noKind = "\x01\x00\x09\x63\x00"         // 0 var 0 9, and a node of no kind
	const right = "\x00\x00\x01\x03\x00\x02\x00"  // 0 num 0 1;1 set 0 2 0
	const sent = "\x00\x00\x01\x04\x00\x01\x00"   // 0 num 0 1;1 out 0 1 0
	const broken = "\x00\x02\x01\x03\x00\x02\x00" // 0 num 2 1;1 set 0 2 0
	const end = "\x07\x00\x01\x01"                // 2 block 0 1
	for _, c := range []struct {
		s, bytes string
		errno    api.Errno
		place    int
	}{
		{head + "set x y;", "FP2", api.ErrName, 9}, {head + "set x y;", "FP1\x01\x00\x03" + right + end, api.ErrName, 9}, {head + "set x 1", "", api.ErrSyntax, 9},
		{head + "set x 1;", "", api.ErrBytes, 0}, {head + "set x 1;", "FP2\x00", api.ErrBytes, 2}, {head + "set x 1;", "FP1\x00\x03" + broken, api.ErrBytes, 12}, {head + "set x 1;", "FP1\x05\x00", api.ErrBytes, 3}, {head + "set x 1;", "FP1\x01\x02\x03" + broken + end + "\x00", api.ErrBytes, 17}, {head + "set x 1;", "FP1\x01\x00\x02" + noKind, api.ErrBytes, 9},
		{head + "set x 1;", "FP1\x00\x03" + broken + "\x07\x00\x01\x01", api.ErrRoot, -1}, {head + "set x 1;", "FP1\x02\x00\x00\x03" + broken + end, api.ErrRoot, -1}, {head + "set x 1;", "FP1\x01\x02\x03" + broken + end, api.ErrRoot, -1}, {head + "set x 1;", "FP1\x01\xff\xff\xff\xff\x07\x03" + right + end, api.ErrRoot, -1},
		{head + "set x 1;", "FP1\x01\x00\x03" + broken + end, api.ErrRule, 0}, {head + "set x 2;", "FP1\x01\x00\x03" + broken + end, api.ErrRule, 0}, {head + "set x 1;", "FP1\x01\x00\x03" + right + "\x07\x00\x01\x00", api.ErrBytes, 9}, {head + "set x 1;", "FP1\x01\x00\x03" + right + "\x07\x00\x02\x00\x01", api.ErrRule, 2},
		{head + "set x 2;", "FP1\x01\x00\x03" + right + end, api.ErrRoot, -1}, {head + "set x 1;", "FP1\x01\x00\x03" + sent + end, api.ErrRoot, -1},
		{head + "set x 1;", "FP1\x01\x00\x03" + right + end, api.OK, -1}, {head + "set x 1;", "FP1\x01\x01\x03" + right + end, api.OK, -1},
	} {
		err := flows.Check(text(c.s), []byte(c.bytes))
		if c.errno == api.OK && err == nil || c.errno != api.OK && isFault(err, c.errno, c.place) {
			continue
		}
		t.Errorf("P12: Check(%q, %q): %v, want %d at %d", c.s, c.bytes, err, c.errno, c.place)
	}
}

// said writes down, as a program of the head says it, the statements that a node is of; where one cannot be, a question mark.
func said(p api.Proof, number int) string {
	n := p.Nodes[number]
	name := func(names ...string) string {
		if n.A < len(names) {
			return names[n.A]
		}
		return "?"
	}
	switch n.Kind {
	case api.Num:
		return fmt.Sprint(n.A)
	case api.Var:
		return name("a", "s", "x")
	case api.Op:
		return said(p, n.B) + name(" + ", " - ", " * ", " < ", " == ") + said(p, n.C)
	case api.Set:
		return "set " + name("a", "s", "x") + " " + said(p, n.B) + ";"
	case api.Out:
		return "out " + name("pub", "sec") + " " + said(p, n.B) + ";"
	case api.If:
		return "if " + said(p, n.A) + ";" + strings.TrimSuffix(said(p, n.B)+"else;"+said(p, n.C), "else;") + "end;"
	case api.While:
		return "while " + said(p, n.A) + ";" + said(p, n.B) + "end;"
	}
	all := ""
	for _, by := range n.List {
		all += said(p, by)
	}
	return all
}

// TestNoPanicsOfChecks: a proof with each byte changed, left out or doubled proves just what it says, and each call answers the same twice.
func TestNoPanicsOfChecks(t *testing.T) {
	errnos := map[api.Errno]int{}
	try := func(s, body, bytes string) {
		b := []byte(bytes)
		err, same := flows.Check(s, b), flows.Check(s, b)
		if fmt.Sprint(err) != fmt.Sprint(same) || string(b) != bytes {
			t.Errorf("P1: Check(%q, %q): %v, then %v", s, bytes, err, same)
		}
		errno, place := api.Tell(err)
		errnos[errno]++
		if errno < 0 || (place < 0) != (errno == api.OK || errno == api.ErrRoot) {
			t.Errorf("P12: Check(%q, %q): %v", s, bytes, err)
		}
		p, _ := flows.Decode(b)
		if errno == api.OK && said(p, len(p.Nodes)-1) != body || errno == api.ErrRoot && len(p.Locals) == 1 && p.Locals[0] < 2 && p.Nodes[len(p.Nodes)-1].Kind == api.Block && said(p, len(p.Nodes)-1) == body {
			t.Errorf("P12: Check(%q, %q): %v, but it is a proof of %q", s, bytes, err, said(p, len(p.Nodes)-1))
		}
	}
	s := text(head + wholeBody)
	for i := range wholeBytes {
		try(s, wholeBody, wholeBytes[:i])
		try(s, wholeBody, wholeBytes[i:])
		try(s, wholeBody, wholeBytes[:i]+wholeBytes[i+1:])
		for c := range 256 {
			try(s, wholeBody, wholeBytes[:i]+string([]byte{byte(c)})+wholeBytes[i+1:])
			try(s, wholeBody, wholeBytes[:i]+string([]byte{byte(c)})+wholeBytes[i:])
		}
		try(s, wholeBody, wholeBytes[:i]+"\xff\xff\xff\xff\x07"+wholeBytes[i+1:])
	}
	for i := range s {
		for _, c := range []byte("\n\x00 019aspubecx-+=<*") {
			changed := s[:i] + string([]byte{c}) + s[i+1:]
			_, body, _ := strings.Cut(changed, "begin\n")
			try(changed, strings.ReplaceAll(body, "\n", ";"), wholeBytes)
		}
	}
	for _, errno := range []api.Errno{api.OK, api.ErrSyntax, api.ErrBytes, api.ErrRule, api.ErrRoot} {
		if errnos[errno] == 0 {
			t.Errorf("nothing had error %d: the test tells little", errno)
		}
	}
}
