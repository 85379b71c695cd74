package program

import "flows/api"

// maxDigits: how many digits a number of a program may have.
const maxDigits = 9

// isName tells whether a word is a name.
func isName(word string) bool {
	for _, letter := range word {
		if letter < 'a' || letter > 'z' {
			return false
		}
	}
	return 1 <= len(word) && len(word) <= api.MaxName
}

// number tells the number that a word is, or false if it is none.
func number(word string) (int, bool) {
	if word == "" || len(word) > maxDigits || word[0] == '0' && word != "0" {
		return 0, false
	}
	n := 0
	for _, digit := range word {
		if digit < '0' || digit > '9' {
			return 0, false
		}
		n = 10*n + int(digit-'0')
	}
	return n, true
}

// operation tells the number of the operation that a word is, or false if it is none.
func operation(word string) (int, bool) {
	switch word {
	case "+":
		return Plus, true
	case "-":
		return Minus, true
	case "*":
		return Times, true
	case "<":
		return Less, true
	case "==":
		return Equal, true
	}
	return 0, false
}

// fits tells whether words are of a shape, in which each is a letter: n a name, a a name or a number, o an operation.
func fits(shape string, words []string) bool {
	if len(words) != len(shape) {
		return false
	}
	for i, letter := range shape {
		named := isName(words[i])
		_, numbered := number(words[i])
		_, operates := operation(words[i])
		ok := false
		switch letter {
		case 'n':
			ok = named
		case 'a':
			ok = named || numbered
		case 'o':
			ok = operates
		}
		if !ok {
			return false
		}
	}
	return true
}
