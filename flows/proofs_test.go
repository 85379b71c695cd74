package flows_test

import (
	"errors"
	"fmt"
	"reflect"
	"strings"
	"testing"

	"flows/api"
	"flows/flows"
)

// The proofs of the document's last paragraph.
const (
	wholeText  = "locals 1;0 var 1 1;1 num 0 1;2 op 1 0 0 1;3 set 0 2 2;4 var 0 0;5 var 1 2;6 out 0 1 5;7 block 0 6;8 block 0;9 if 0 4 7 8;10 block 0 3 9 3;"
	wholeBytes = "FP1\x01\x01\x0b" + "\x01\x01\x01" + "\x00\x00\x01" + "\x02\x01\x00\x00\x01" + "\x03\x00\x02\x02" + "\x01\x00\x00" + "\x01\x01\x02" + "\x04\x00\x01\x05" + "\x07\x00\x01\x06" + "\x07\x00\x00" + "\x05\x00\x04\x07\x08" + "\x07\x00\x03\x03\x09\x03"
	emptyText  = "locals;0 block 0;"
	emptyBytes = "FP1\x00\x01\x07\x00\x00"
)

func TestDocumentsProofs(t *testing.T) {
	for s, bytes := range map[string]string{text(wholeText): wholeBytes, text(emptyText): emptyBytes} {
		if got, err := flows.Text([]byte(bytes)); err != nil || got != s {
			t.Errorf("P10: Text(%q): %q, %v", bytes, got, err)
		}
		if got, err := flows.Bytes(s); err != nil || string(got) != bytes {
			t.Errorf("P10: Bytes(%q): %q, %v", s, got, err)
		}
		p, err := flows.Decode([]byte(bytes))
		if err != nil {
			t.Errorf("P9: Decode(%q): %v", bytes, err)
		}
		if got, err := flows.Encode(p); err != nil || string(got) != bytes {
			t.Errorf("P9: Encode(%v): %q, %v", p, got, err)
		}
	}
	p, _ := flows.Decode([]byte(wholeBytes))
	want := api.Proof{Locals: []int{1}, Nodes: []api.Node{
		{Kind: api.Var, Level: 1, A: 1}, {Kind: api.Num, A: 1}, {Kind: api.Op, Level: 1, B: 0, C: 1}, {Kind: api.Set, A: 2, B: 2}, {Kind: api.Var}, {Kind: api.Var, Level: 1, A: 2}, {Kind: api.Out, A: 1, B: 5},
		{Kind: api.Block, List: []int{6}}, {Kind: api.Block}, {Kind: api.If, A: 4, B: 7, C: 8}, {Kind: api.Block, List: []int{3, 9, 3}},
	}}
	if !reflect.DeepEqual(p, want) {
		t.Errorf("P8: %v, want %v", p, want)
	}
}

// isFault: an error is of this number alone and has this place (-1: it is no *api.At).
func isFault(err error, errno api.Errno, place int) bool {
	var at *api.At
	for other := api.ErrLong; other <= api.ErrCells; other++ {
		if errors.Is(err, other) != (other == errno) {
			return false
		}
	}
	return errors.As(err, &at) == (place >= 0) && (place < 0 || at.Place == place)
}

func TestWrongProofs(t *testing.T) {
	for bytes, at := range map[string]int{"": 0, "FQ1": 1, wholeBytes + "\x00": len(wholeBytes), wholeBytes[:40]: 40, "FP1\x00\x02\x00\x00\x00\x00\x00\x00": 8, "FP1\x00\x02\x00\x00\x00\x07\x00\x00": 5} {
		p, err := flows.Decode([]byte(bytes))
		if !isFault(err, api.ErrBytes, at) || !reflect.DeepEqual(p, api.Proof{}) {
			t.Errorf("P9: Decode(%q): %v, %v, want byte %d", bytes, p, err, at)
		}
		s, err := flows.Text([]byte(bytes))
		if !isFault(err, api.ErrBytes, at) || s != "" {
			t.Errorf("P10: Text(%q): %q, %v, want byte %d", bytes, s, err, at)
		}
	}
	for _, c := range []struct {
		p  api.Proof
		at int
	}{{api.Proof{}, -1}, {api.Proof{Nodes: make([]api.Node, 201)}, -1}, {api.Proof{Nodes: make([]api.Node, 200)}, 1}, {api.Proof{Nodes: []api.Node{{Kind: 9}}}, 0}, {api.Proof{Nodes: []api.Node{{}, {A: 1}}}, 0}} {
		if b, err := flows.Encode(c.p); !isFault(err, api.ErrBytes, c.at) || b != nil {
			t.Errorf("P9: Encode(%v): %v, %v, want node %d", c.p, b, err, c.at)
		}
	}
	for _, c := range []struct {
		s     string
		errno api.Errno
		place int
	}{
		{"", api.ErrSyntax, 1}, {"locals", api.ErrSyntax, 1}, {"locals;0 block 0", api.ErrSyntax, 2}, {"locals;1 block 0;", api.ErrSyntax, 2}, {"locals;0 num 0 2147483648;", api.ErrSyntax, 2}, {"locals;0 num 0 1;1 num 0 1;2 num 0 01;", api.ErrSyntax, 4},
		{"locals;", api.ErrBytes, -1}, {"locals 0 0 0 0 0;0 block 0;", api.ErrBytes, -1}, {"locals;0 num 0 1;1 num 0 1;", api.ErrBytes, 1}, {"locals;0 num 0 1;1 block 0;", api.ErrBytes, 0},
	} {
		if b, err := flows.Bytes(text(c.s)); !isFault(err, c.errno, c.place) || b != nil {
			t.Errorf("P10: Bytes(%q): %v, %v, want %d at %d", c.s, b, err, c.errno, c.place)
		}
	}
}

// TestNoPanicsOfProofs: a proof's bytes and text, each byte changed, left out or doubled, twice with the same answer.
func TestNoPanicsOfProofs(t *testing.T) {
	try := func(s string) {
		p, err := flows.Decode([]byte(s))
		again, same := flows.Decode([]byte(s))
		if !reflect.DeepEqual(p, again) || fmt.Sprint(err) != fmt.Sprint(same) {
			t.Errorf("P1: Decode(%q) answers differently: %v, %v", s, p, again)
		}
		written, err := flows.Text([]byte(s))
		if back, e := flows.Bytes(written); err == nil && (e != nil || string(back) != s) {
			t.Errorf("P10: Text(%q) is %q, whose bytes are %q, %v", s, written, back, e)
		}
		b, err := flows.Bytes(s)
		if back, e := flows.Text(b); err == nil && (e != nil || back != s) {
			t.Errorf("P10: Bytes(%q) is %q, whose text is %q, %v", s, b, back, e)
		}
	}
	for _, s := range []string{"\n", "locals ", "locals\n", "\xff", "FP1", "0 "} {
		try(strings.Repeat(s, 100000))
	}
	for _, whole := range []string{wholeBytes, text(wholeText), emptyBytes, text(emptyText)} {
		for i := range whole {
			try(whole[:i])
			try(whole[i:])
			try(whole[:i] + whole[i+1:])
			for _, c := range []byte("\x00\x01\x02\x03\x04\x05\x06\x07\x08\x7f\x80\xff\n 019-abklx") {
				try(whole[:i] + string([]byte{c}) + whole[i+1:])
				try(whole[:i] + string([]byte{c}) + whole[i:])
			}
		}
	}
}
