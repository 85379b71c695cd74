// Package lines: texts as lines of words, and the numbers that stand in them.
package lines

import (
	"strings"

	"flows/api"
	"flows/fault"
)

// Each hands the lines of a text on, with their numbers (from 1) and words, and tells how many there are.
// A line that is not ended is a fault; the empty text has such a line, too.
func Each(s string, read func(line int, words []string)) int {
	line := 0
	for line == 0 || s != "" {
		line++
		this, rest, ended := strings.Cut(s, "\n")
		if !ended {
			fault.Raise(api.ErrSyntax, line)
		}
		read(line, strings.Split(this, " "))
		s = rest
	}
	return line
}

// Number tells the number that a word is, or false if it is none, or one above most (which is 9 at least).
func Number(word string, most int) (int, bool) {
	if word == "" || word[0] == '0' && word != "0" {
		return 0, false
	}
	n := 0
	for _, letter := range word {
		digit := int(letter - '0')
		// Asked ahead of the product: it might not fit into an int.
		if digit < 0 || digit > 9 || n > (most-digit)/10 {
			return 0, false
		}
		n = 10*n + digit
	}
	return n, true
}
