// Package once: things each once, with their numbers.
package once

// Things is things of some kind, numbered from 0 in the order in which they came first.
type Things[K comparable] struct {
	numbers map[K]int
}

// None is no things yet.
func None[K comparable]() *Things[K] {
	return &Things[K]{numbers: map[K]int{}}
}

// Number tells a thing's number, and whether it is new: then it has got the next one.
func (t *Things[K]) Number(thing K) (int, bool) {
	number, there := t.numbers[thing]
	if !there {
		number = len(t.numbers)
		t.numbers[thing] = number
	}
	return number, !there
}
