package program

import (
	"flows/api"
	"flows/lines"
)

// maxNumber: a number of a program has at most nine digits.
const maxNumber = 999999999

// isName tells whether a word is a name.
func isName(word string) bool {
	for _, letter := range word {
		if letter < 'a' || letter > 'z' {
			return false
		}
	}
	return 1 <= len(word) && len(word) <= api.MaxName
}

// number tells the number that a word is, or false if it is none.
func number(word string) (int, bool) { return lines.Number(word, maxNumber) }

// operation tells the number of the operation that a word is, or false if it is none.
func operation(word string) (int, bool) {
	switch word {
	case "+":
		return Plus, true
	case "-":
		return Minus, true
	case "*":
		return Times, true
	case "<":
		return Less, true
	case "==":
		return Equal, true
	}
	return 0, false
}

// fits tells whether words are of a shape, in which each is a letter: n a name, a a name or a number, o an operation.
func fits(shape string, words []string) bool {
	if len(words) != len(shape) {
		return false
	}
	for i, letter := range shape {
		named := isName(words[i])
		_, numbered := number(words[i])
		_, operates := operation(words[i])
		ok := false
		switch letter {
		case 'n':
			ok = named
		case 'a':
			ok = named || numbered
		case 'o':
			ok = operates
		}
		if !ok {
			return false
		}
	}
	return true
}
