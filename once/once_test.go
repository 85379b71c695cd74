package once

import "testing"

func TestEachThingHasOneNumber(t *testing.T) {
	names := None[string]()
	for i, c := range []struct {
		name   string
		number int
		isNew  bool
	}{{"b", 0, true}, {"a", 1, true}, {"b", 0, false}, {"", 2, true}, {"a", 1, false}, {"", 2, false}, {"c", 3, true}, {"b", 0, false}} {
		if number, isNew := names.Number(c.name); number != c.number || isNew != c.isNew {
			t.Errorf("thing %d, %q: %d, %v", i, c.name, number, isNew)
		}
	}
}

func TestThingsOfAnyKey(t *testing.T) {
	type pair struct {
		n    int
		list [3]int
	}
	pairs, others := None[pair](), None[pair]()
	pairs.Number(pair{1, [3]int{0, 0, 1}})
	if number, isNew := pairs.Number(pair{1, [3]int{0, 0, 2}}); number != 1 || !isNew {
		t.Errorf("another pair: %d, %v", number, isNew)
	}
	if number, isNew := pairs.Number(pair{1, [3]int{0, 0, 1}}); number != 0 || isNew {
		t.Errorf("the same pair: %d, %v", number, isNew)
	}
	if number, isNew := others.Number(pair{1, [3]int{0, 0, 2}}); number != 0 || !isNew {
		t.Errorf("things know of other things: %d, %v", number, isNew)
	}
}
