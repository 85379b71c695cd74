package machine

import (
	"testing"

	"flows/program"
)

func TestOperations(t *testing.T) {
	const top = 1<<32 - 1
	for _, c := range []struct {
		operation  int
		x, y, want uint32
	}{
		{program.Plus, 2, 3, 5}, {program.Plus, top, 1, 0}, {program.Plus, top, top, top - 1},
		{program.Minus, 5, 3, 2}, {program.Minus, 3, 5, top - 1}, {program.Minus, 0, 1, top}, {program.Minus, 0, top, 1},
		{program.Times, 6, 7, 42}, {program.Times, top, top, 1}, {program.Times, 1 << 16, 1 << 16, 0}, {program.Times, 999999999, 999999999, 808348673},
		{program.Less, 1, 2, 1}, {program.Less, 2, 2, 0}, {program.Less, 3, 2, 0}, {program.Less, top, 0, 0}, {program.Less, 0, top, 1}, {program.Less, 1<<31 - 1, 1 << 31, 1},
		{program.Equal, 4, 4, 1}, {program.Equal, 4, 5, 0}, {program.Equal, top, top, 1}, {program.Equal, top, 0, 0},
	} {
		if got := operations()[c.operation](c.x, c.y); got != c.want {
			t.Errorf("P7: operation %d of %d and %d: %d, want %d", c.operation, c.x, c.y, got, c.want)
		}
	}
	for i, number := range []int{program.Plus, program.Minus, program.Times, program.Less, program.Equal} {
		if number != i {
			t.Errorf("operation %d has number %d", i, number)
		}
	}
}
