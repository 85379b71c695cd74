package proof

import (
	"reflect"
	"testing"

	"flows/api"
)

// refusesBytes: bytes are no proof, and what is told has the byte as its place.
func refusesBytes(t *testing.T, bytes string, at int) {
	t.Helper()
	p, err := Decode(coded(bytes))
	if errno, place := api.Tell(err); errno != api.ErrBytes || place != at || !reflect.DeepEqual(p, api.Proof{}) {
		t.Errorf("P9: Decode(%s): %v, %v, want byte %d", bytes, p, err, at)
	}
}

func TestWrongMagic(t *testing.T) {
	for bytes, at := range map[string]int{
		"": 0, "F": 1, "FP": 2, "FP1": 3,
		"XP1 0 1 7 0 0": 0, "FX1 0 1 7 0 0": 1, "FP2 0 1 7 0 0": 2, "fP1": 0, "Fp1": 1, "FPX": 2, "XYZ": 0, "X": 0, "FX": 1, "FPFP1": 2, "70 80 177 0 1 7 0 0": 2,
	} {
		refusesBytes(t, bytes, at)
	}
}

// TestWrongNumbers: at each place where a number stands; the bytes ahead of it are its place.
func TestWrongNumbers(t *testing.T) {
	for _, ahead := range []string{
		"FP1", "FP1 1", "FP1 4 0 0 0", "FP1 0", "FP1 1 128 1",
		"FP1 0 1 0", "FP1 0 1 0 0", "FP1 0 1 1 5", "FP1 0 2 0 0 0 2 0", "FP1 0 2 0 0 0 2 0 0", "FP1 0 2 0 0 0 2 0 0 0", "FP1 0 2 0 0 0 3 0", "FP1 0 2 0 0 0 3 0 0", "FP1 0 2 0 0 0 4 0 0",
		"FP1 0 2 0 0 0 5", "FP1 0 2 0 0 0 5 0", "FP1 0 2 0 0 0 5 0 0", "FP1 0 2 0 0 0 5 0 0 0", "FP1 0 2 0 0 0 6 0", "FP1 0 2 0 0 0 6 0 0", "FP1 0 1 7", "FP1 0 1 7 0", "FP1 0 2 0 0 0 7 0 1", "FP1 0 2 0 0 0 7 0 16 0 0 0 0 0 0 0 0 0 0 0 0 0 0 0",
	} {
		at := len(coded(ahead))
		for _, wrong := range []string{
			"128 0", "129 0", "128 128 0", "255 255 0", "128 128 128 0", "255 255 255 128 0", "128 128 128 128 0",
			"255 255 255 255 8", "128 128 128 128 8", "128 128 128 128 16", "255 255 255 255 127", "128 128 128 128 64",
			"128 128 128 128 128", "128 128 128 128 129", "255 255 255 255 135", "255 255 255 255 255",
		} {
			refusesBytes(t, ahead+" "+wrong, at)
			refusesBytes(t, ahead+" "+wrong+many(30, " 0"), at)
			refusesBytes(t, ahead+" "+wrong+many(30, " 128"), at)
		}
		for i := range 5 {
			refusesBytes(t, ahead+many(i, " 128"), at+i)
			refusesBytes(t, ahead+many(i, " 255"), at+i)
		}
	}
}

func TestTooMuch(t *testing.T) {
	for bytes, at := range map[string]int{
		"FP1 5 0 0 0 0 0 1 7 0 0": 3, "FP1 5": 3, "FP1 127": 3, "FP1 132 1": 3, "FP1 255 255 255 255 7": 3,
		"FP1 0 0": 4, "FP1 1 0 0": 5, "FP1 0 0 7 0 0": 4, "FP1 0 201 1": 4, "FP1 0 201 1 7 0 0": 4, "FP1 0 128 2": 4, "FP1 0 255 255 255 255 7": 4, "FP1 4 0 0 0 0 201 1": 8,
		"FP1 0 1 7 0 17": 7, "FP1 0 2 0 0 0 7 0 17" + many(17, " 0"): 10, "FP1 0 1 7 0 127": 7, "FP1 0 1 7 0 144 1": 7, "FP1 0 1 7 0 255 255 255 255 7": 7,
	} {
		refusesBytes(t, bytes, at)
	}
	refusesBytes(t, chain(201).bytes, 4)
	refusesBytes(t, "FP1 0 200 1", 6)
}

// TestTooEarly: whatever is left out at the end of a proof, the end is told; and what stands behind one.
func TestTooEarly(t *testing.T) {
	for _, c := range samples() {
		whole := coded(c.bytes)
		for i := range whole {
			_, err := Decode(whole[:i])
			if errno, place := api.Tell(err); errno != api.ErrBytes || place != i {
				t.Errorf("P9: the first %d bytes of %s: %v", i, c.bytes, err)
			}
		}
		for _, more := range []string{" 0", " 7", " 128", " 255 255", " FP1", " 7 0 0"} {
			refusesBytes(t, c.bytes+more, len(whole))
		}
	}
}

func TestWrongNodes(t *testing.T) {
	for bytes, at := range map[string]int{
		"FP1 0 1 8": 5, "FP1 0 1 8 0 0": 5, "FP1 0 1 255": 5, "FP1 0 1 128 0 0": 5, "FP1 0 1 135 0 0": 5, "FP1 1 9 2 0 0 0 9": 9, "FP1 0 2 7 0 0 8": 8,

		"FP1 0 1 2 0 0 0 0": 5, "FP1 0 2 0 0 0 2 0 0 1 0": 8, "FP1 0 2 0 0 0 2 0 0 0 1": 8, "FP1 0 2 0 0 0 2 0 0 0 2": 8,
		"FP1 0 1 3 0 0 0": 5, "FP1 0 2 0 0 0 3 0 0 1": 8, "FP1 0 1 4 0 0 0": 5, "FP1 0 2 0 0 0 4 0 0 1": 8,
		"FP1 0 2 0 0 0 5 0 1 0 0": 8, "FP1 0 2 0 0 0 5 0 0 1 0": 8, "FP1 0 2 0 0 0 5 0 0 0 1": 8,
		"FP1 0 2 0 0 0 6 0 1 0": 8, "FP1 0 2 0 0 0 6 0 0 1": 8,
		"FP1 0 1 7 0 1 0": 5, "FP1 0 2 0 0 0 7 0 1 1": 8, "FP1 0 2 0 0 0 7 0 3 0 0 1": 8, "FP1 0 2 0 0 0 7 0 3 1 0 0": 8, "FP1 0 2 0 0 0 7 0 1 255 255 255 255 7": 8,

		"FP1 0 2 0 0 0 0 0 0": 8, "FP1 0 3 0 0 0 7 0 1 0 7 0 1 0": 12, "FP1 0 3 1 0 0 0 0 0 1 0 0": 11, "FP1 0 4 0 0 0 7 0 1 0 7 0 0 7 0 0": 15,
		"FP1 0 3 0 0 0 3 1 4 0 3 1 4 0": 12,

		"FP1 0 2 0 0 0 0 0 1": 5, "FP1 0 2 0 0 0 7 0 0": 5, "FP1 0 3 0 0 0 0 0 1 7 0 1 1": 5, "FP1 0 3 0 0 0 0 0 1 7 0 1 0": 8, "FP1 0 3 0 0 0 0 0 1 2 0 0 1 1": 5, "FP1 0 3 0 0 0 7 0 1 0 0 0 1": 8,
		"FP1 0 2 0 0 0 0 0 128 1": 5,
		// A, where it is no node, makes none that is used.
		"FP1 0 3 0 0 0 7 0 0 3 0 0 1": 5, "FP1 0 3 0 0 0 7 0 0 4 0 0 1": 5, "FP1 0 3 0 0 0 7 0 0 2 0 0 1 1": 5,
	} {
		refusesBytes(t, bytes, at)
	}
}

// TestAlmostTheSame: nodes that differ in one number, whichever, are not the same.
func TestAlmostTheSame(t *testing.T) {
	for _, bytes := range []string{
		"FP1 0 3 0 0 0 0 1 0 7 0 2 0 1", "FP1 0 3 0 0 0 0 0 1 7 0 2 0 1", "FP1 0 3 0 0 0 1 0 0 7 0 2 0 1", "FP1 0 3 7 0 0 7 0 1 0 7 0 2 0 1",
		"FP1 0 4 0 0 0 7 0 1 0 7 0 2 0 0 7 0 2 1 2", "FP1 0 5 0 0 0 0 0 1 7 0 2 0 1 7 0 2 1 0 7 0 2 2 3",
		"FP1 0 5 0 0 0 0 0 1 2 0 0 0 0 2 0 0 0 1 7 0 2 2 3", "FP1 0 5 0 0 0 0 0 1 2 0 0 0 1 2 0 0 1 1 7 0 2 2 3", "FP1 0 4 0 0 0 2 0 0 0 0 2 0 1 0 0 7 0 2 1 2", "FP1 0 4 0 0 0 3 0 0 0 4 0 0 0 7 0 2 1 2",
	} {
		if _, err := Decode(coded(bytes)); err != nil {
			t.Errorf("P9: Decode(%s): %v", bytes, err)
		}
	}
}

// TestTwoFaults: which of two faults counts.
func TestTwoFaults(t *testing.T) {
	for bytes, at := range map[string]int{
		"FX2 9": 1, "FP2 5": 2, "FP1 5 128 0": 3, "FP1 1 128 0 0": 4, "FP1 0 0 8": 4, "FP1 0 201 1 8": 4,
		// A node's own faults: its kind ahead of its numbers, these ahead of those that it is by.
		"FP1 0 1 8 128 0": 5, "FP1 0 1 3 128 0 0 9": 6, "FP1 0 1 3 0 0 9 9": 5, "FP1 0 1 3 0 128 0 9": 7, "FP1 0 1 2 0 0 9 128 0": 9, "FP1 0 1 2 0 0 9 128": 10, "FP1 0 1 2 0 0 9": 9, "FP1 0 1 7 0 2 9 128 0": 9, "FP1 0 1 7 0 2 9": 9, "FP1 0 1 7 0 17 128 0": 7,
		// An earlier node ahead of a later one, and ahead of what stands behind.
		"FP1 0 2 3 0 0 9 8": 5, "FP1 0 2 3 0 0 9 0 128 0": 5, "FP1 0 1 3 0 0 9 1 1": 5, "FP1 0 2 3 0 0 9": 5,
		// Nodes that are the same, and those that none is by, only where there is nothing else.
		"FP1 0 2 0 0 0 0 0 0 5": 11, "FP1 0 3 0 0 0 0 0 0": 11, "FP1 0 3 0 0 0 0 0 0 8": 11, "FP1 0 3 0 0 0 0 0 0 7 0 1 2": 11, "FP1 0 3 0 0 0 0 0 0 7 0 1 128 0": 14,
		"FP1 0 2 0 0 0 0 0 1 5": 11, "FP1 0 3 0 0 0 0 0 1 8": 11, "FP1 0 3 0 0 0 0 0 1 7 0 1 2": 11,
		// And of these two: the same ones first, wherever they stand.
		"FP1 0 3 0 0 0 0 0 1 0 0 0": 11, "FP1 0 4 0 0 0 0 0 1 7 0 0 7 0 0": 14, "FP1 0 3 0 0 0 0 0 0 7 0 1 0": 8,
	} {
		refusesBytes(t, bytes, at)
	}
}

// TestEachByteChanged: what is a proof behind that is written down by the same bytes, and what is none tells a byte that is there.
func TestEachByteChanged(t *testing.T) {
	proofs := 0
	for _, c := range samples() {
		whole := coded(c.bytes)
		if len(whole) > 60 {
			continue
		}
		for i := range whole {
			for value := range 256 {
				b := append([]byte(nil), whole...)
				b[i] = byte(value)
				p, err := Decode(b)
				if err == nil {
					proofs++
					sameAgain(t, p, b)
				} else if errno, place := api.Tell(err); errno != api.ErrBytes || place < 0 || place > len(b) {
					t.Errorf("P9: Decode(%v): %v", b, err)
				}
			}
		}
	}
	if proofs < 1000 {
		t.Errorf("only %d were proofs: the test tells little", proofs)
	}
}

func sameAgain(t *testing.T, p api.Proof, b []byte) {
	t.Helper()
	if again, err := Encode(p); err != nil || string(again) != string(b) {
		t.Errorf("P9: %v are a proof whose bytes are %v, %v", b, again, err)
	}
	if read, err := Read(Text(p)); err != nil || !reflect.DeepEqual(read, p) {
		t.Errorf("P10: %v have a text that says %v, %v", b, read, err)
	}
}
