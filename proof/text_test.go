package proof

import (
	"reflect"
	"strings"
	"testing"

	"flows/api"
)

// refusesLine: a text is none of a proof, and what is told has the line as its place.
func refusesLine(t *testing.T, s string, line int) {
	t.Helper()
	p, err := Read(text(s))
	if errno, place := api.Tell(err); errno != api.ErrSyntax || place != line || !reflect.DeepEqual(p, api.Proof{}) {
		t.Errorf("P10: Read(%q): %v, %v, want line %d", s, p, err, line)
	}
}

// wrongNumbers: words that are no numbers of a proof's text.
func wrongNumbers() []string {
	return []string{"", "x", "-1", "+1", "01", "00", "2147483648", "2147483650", "4294967296", "18446744073709551616", strings.Repeat("1", 5000), "1.0", "1x", "\u0661", "\xff", "1\t", "1\r", "0x1"}
}

func TestFirstLine(t *testing.T) {
	for _, line := range []string{"", "local", "localss", "Locals", "LOCALS", " locals", "locals ", "locals  1", "locals 1 ", "locals 1  2", "locals,", "locals\t1", "0 block 0", "num", "1", "locals locals"} {
		refusesLine(t, line+";", 1)
		refusesLine(t, line+";0 block 0;", 1)
		refusesLine(t, line+";?;", 1)
	}
	for _, word := range wrongNumbers() {
		refusesLine(t, "locals "+word+";0 block 0;", 1)
		refusesLine(t, "locals 1 2 "+word+";0 block 0;", 1)
		refusesLine(t, "locals "+word+" 3;0 block 0;", 1)
	}
}

func TestNodeLines(t *testing.T) {
	for _, line := range []string{
		"", " ", "1", "1 num", "num 0 1", "num", "1 loop 0 1", "1 Num 0 1", "1 NUM 0 1", "1 nu 0 1", "1 nums 0 1", "1  0 1", "1 0 0 1", "1 7 0", "locals", "locals 1",
		"0 num 0 1", "2 num 0 1", "01 num 0 1", "00 num 0 1", "-1 num 0 1", "+1 num 0 1", "1. num 0 1", "11 num 0 1", "x num 0 1", " num 0 1", "4294967297 num 0 1",
		" 1 num 0 1", "1  num 0 1", "1 num  0 1", "1 num 0  1", "1 num 0 1 ", "1\tnum 0 1", "1 num 0 1\r",
		"1 num 0", "1 num 0 1 2", "1 var", "1 var 0", "1 var 0 1 2", "1 op 0 0 0", "1 op 0 0", "1 op 0", "1 op 0 0 0 0 0", "1 set 0", "1 set 0 1", "1 set 0 1 0 0", "1 out 0", "1 out 0 1", "1 out 0 1 0 0", "1 if 0", "1 if 0 0", "1 if 0 0 0", "1 if 0 0 0 0 0", "1 while 0", "1 while 0 0", "1 while 0 0 0 0", "1 block", "1 block ", "1 block 0 ", "1 block 0  0",
	} {
		refusesLine(t, "locals;0 num 0 0;"+line+";", 3)
		refusesLine(t, "locals;0 num 0 0;"+line+";2 block 0 1;", 3)
		refusesLine(t, "locals 1 2;0 num 0 0;"+line+";?;", 3)
	}
	for _, line := range []string{"1 num ? 0", "1 num 0 ?", "1 var 0 ?", "1 op ? 0 0 0", "1 op 0 ? 0 0", "1 op 0 0 ? 0", "1 op 0 0 0 ?", "1 set 0 0 ?", "1 out 0 ? 0", "1 if 0 0 0 ?", "1 while ? 0 0", "1 while 0 0 ?", "1 block ?", "1 block 0 ?", "1 block 0 0 ? 0", "1 block 0 0 0 ?", "? block 0"} {
		for _, word := range wrongNumbers() {
			refusesLine(t, "locals;0 num 0 0;"+strings.ReplaceAll(line, "?", word)+";", 3)
		}
	}
}

// TestNotEnded: also the empty text has a line that is not ended.
func TestNotEnded(t *testing.T) {
	for s, line := range map[string]int{
		"": 1, "locals": 1, "locals 1": 1, "?": 1, "locals;0 block 0": 2, "locals;0 num 0 0;1 block 0 0": 3, "locals; ": 2, "locals;0 block 0; ": 3, "locals;;": 2, "locals;0 block 0;;": 3, ";": 1, ";locals;": 1,
	} {
		refusesLine(t, s, line)
	}
}

// TestTextsThatAreNoProofs: each line is one, and what they say is Encode's to refuse, also where P8 lets it be nowhere.
func TestTextsThatAreNoProofs(t *testing.T) {
	for s, node := range map[string]int{
		"locals;": -1, "locals 1;": -1, "locals 1 2 3 4 5;0 block 0;": -1, chain(201).text: -1, "locals 1 2 3 4 5;0 op 0 9 9 9;": -1,
		"locals;0 block 0 0;": 0, "locals;0 op 0 9 9 9;": 0, "locals;0 num 0 1;1 set 0 5 1;": 1, "locals;0 num 0 1;1 num 0 1;": 1, "locals;0 num 0 1;1 block 0;": 0,
		"locals;0 num 0 0;1 block 0" + many(17, " 0") + ";": 1, "locals;0 num 0 0;1 block 0" + many(1000, " 0") + ";": 1,
	} {
		p, err := Read(text(s))
		if err != nil {
			t.Errorf("P10: Read(%.60q): %v", s, err)
		}
		refusesProofs(t, []wrongProof{{p, node}})
	}
	refusesLine(t, chain(300).text+"301 block 0;", 302)
	refusesLine(t, "locals;0 num 0 1;1 num 0 1;?;", 4)
	refusesLine(t, "locals 1 2 3 4 5;0 block 0 0;?;", 3)
	refusesLine(t, "locals;0 block 0"+many(17, " 0")+";1 num 0;", 3)
}
