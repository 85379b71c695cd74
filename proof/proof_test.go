package proof

import (
	"fmt"
	"reflect"
	"strconv"
	"strings"
	"testing"

	"flows/api"
)

// text: a semicolon is a line's end.
func text(s string) string { return strings.ReplaceAll(s, ";", "\n") }

// coded tells the bytes that a text of numbers stands for; a word with a letter ahead stands for its own bytes.
func coded(s string) []byte {
	var b []byte
	for _, word := range strings.Fields(s) {
		if n, err := strconv.ParseUint(word, 10, 8); err == nil {
			b = append(b, byte(n))
		} else {
			b = append(b, word...)
		}
	}
	return b
}

// many: the same words so often.
func many(count int, words string) string { return strings.Repeat(words, count) }

// A sample is a proof in each of its three forms.
type sample struct {
	proof api.Proof
	text  string
	bytes string
}

func samples() []sample {
	return []sample{
		{api.Proof{Nodes: []api.Node{{Kind: api.Block}}}, "locals;0 block 0;", "FP1 0 1 7 0 0"},
		{api.Proof{Nodes: []api.Node{{}}}, "locals;0 num 0 0;", "FP1 0 1 0 0 0"},
		{api.Proof{Nodes: []api.Node{{Kind: api.Num, Level: 2, A: 9}}}, "locals;0 num 2 9;", "FP1 0 1 0 2 9"},
		{api.Proof{Nodes: []api.Node{{Kind: api.Var, Level: 3, A: 4}}}, "locals;0 var 3 4;", "FP1 0 1 1 3 4"},
		{
			api.Proof{Locals: []int{7}, Nodes: []api.Node{{A: 5}, {Kind: api.Var}, {Kind: api.Op, Level: 1, A: 4, B: 1}}},
			"locals 7;0 num 0 5;1 var 0 0;2 op 1 4 1 0;", "FP1 1 7 3 0 0 5 1 0 0 2 1 4 1 0",
		},
		{api.Proof{Nodes: []api.Node{{A: 5}, {Kind: api.Set, Level: 1, A: 8}}}, "locals;0 num 0 5;1 set 1 8 0;", "FP1 0 2 0 0 5 3 1 8 0"},
		{api.Proof{Nodes: []api.Node{{A: 5}, {Kind: api.Out, Level: 1, A: 8}}}, "locals;0 num 0 5;1 out 1 8 0;", "FP1 0 2 0 0 5 4 1 8 0"},
		{
			api.Proof{Nodes: []api.Node{{A: 5}, {Kind: api.Block}, {Kind: api.Block, Level: 1}, {Kind: api.If, Level: 6, A: 0, B: 2, C: 1}}},
			"locals;0 num 0 5;1 block 0;2 block 1;3 if 6 0 2 1;", "FP1 0 4 0 0 5 7 0 0 7 1 0 5 6 0 2 1",
		},
		{
			api.Proof{Nodes: []api.Node{{Kind: api.Block}, {A: 5}, {Kind: api.While, Level: 6, A: 1, B: 0}}},
			"locals;0 block 0;1 num 0 5;2 while 6 1 0;", "FP1 0 3 7 0 0 0 0 5 6 6 1 0",
		},
		{
			api.Proof{Nodes: []api.Node{{A: 5}, {A: 6}, {Kind: api.Block, Level: 9, List: []int{1, 0, 1}}}},
			"locals;0 num 0 5;1 num 0 6;2 block 9 1 0 1;", "FP1 0 3 0 0 5 0 0 6 7 9 3 1 0 1",
		},
		{
			api.Proof{Locals: []int{0, 127, 128, 2147483647}, Nodes: []api.Node{{Level: 16383, A: 16384}, {Level: 2097151, A: 2097152}, {Level: 268435455, A: 268435456}, {Kind: api.Block, Level: 2147483647, List: []int{0, 1, 2}}}},
			"locals 0 127 128 2147483647;0 num 16383 16384;1 num 2097151 2097152;2 num 268435455 268435456;3 block 2147483647 0 1 2;",
			"FP1 4 0 127 128 1 255 255 255 255 7 4 0 255 127 128 128 1 0 255 255 127 128 128 128 1 0 255 255 255 127 128 128 128 128 1 7 255 255 255 255 7 3 0 1 2",
		},
		{api.Proof{Nodes: []api.Node{{}, {Kind: api.Block, List: make([]int, 16)}}}, "locals;0 num 0 0;1 block 0" + many(16, " 0") + ";", "FP1 0 2 0 0 0 7 0 16" + many(16, " 0")},
		chain(api.MaxNodes),
	}
}

// chain: a proof of so many nodes, each by the one ahead of it.
func chain(count int) sample {
	s := sample{text: "locals;", bytes: "FP1 0 " + numberBytes(count)}
	for i := range count {
		if i == 0 {
			s.proof.Nodes = append(s.proof.Nodes, api.Node{Kind: api.Block, Level: 1})
			s.text += "0 block 1;"
			s.bytes += " 7 1 0"
			continue
		}
		s.proof.Nodes = append(s.proof.Nodes, api.Node{Kind: api.Block, List: []int{i - 1}})
		s.text += fmt.Sprintf("%d block 0 %d;", i, i-1)
		s.bytes += " 7 0 1 " + numberBytes(i-1)
	}
	return s
}

// numberBytes writes a number below 16384 as coded reads it.
func numberBytes(n int) string {
	if n < 128 {
		return strconv.Itoa(n)
	}
	return fmt.Sprint(n%128+128, n/128)
}

func TestThereAndBack(t *testing.T) {
	for _, c := range samples() {
		p, err := Decode(coded(c.bytes))
		if err != nil || !reflect.DeepEqual(p, c.proof) {
			t.Errorf("P9: Decode(%s): %v, %v, want %v", c.bytes, p, err, c.proof)
		}
		b, err := Encode(c.proof)
		if err != nil || string(b) != string(coded(c.bytes)) {
			t.Errorf("P9: Encode(%v): %v, %v, want %s", c.proof, b, err, c.bytes)
		}
		if s := Text(c.proof); s != text(c.text) {
			t.Errorf("P10: Text(%v): %q, want %q", c.proof, s, c.text)
		}
		read, err := Read(text(c.text))
		if err != nil || !reflect.DeepEqual(read, c.proof) {
			t.Errorf("P10: Read(%q): %v, %v, want %v", c.text, read, err, c.proof)
		}
	}
}

// TestEmptyLists: a list that is empty and one that is not there are the same.
func TestEmptyLists(t *testing.T) {
	b, err := Encode(api.Proof{Locals: []int{}, Nodes: []api.Node{{List: []int{}}}})
	if err != nil || string(b) != "FP1\x00\x01\x00\x00\x00" {
		t.Errorf("P9: %v, %v", b, err)
	}
	refusesProofs(t, []wrongProof{{api.Proof{Nodes: []api.Node{{Kind: api.Block}, {Kind: api.Block, List: []int{}}}}, 1}})
}
