package lines

import (
	"fmt"
	"strings"
	"testing"

	"flows/api"
	"flows/fault"
)

// told: what Each hands on and answers, and the error that it stops with.
func told(s string) string {
	all := ""
	err := fault.Catch(func() {
		count := Each(s, func(line int, words []string) { all += fmt.Sprintf("%d %q ", line, words) })
		all += fmt.Sprint(count)
	})
	if err != nil {
		errno, place := api.Tell(err)
		all += fmt.Sprint("error ", int(errno), " ", place)
	}
	return all
}

func TestEach(t *testing.T) {
	for s, want := range map[string]string{
		"":            `error 2 1`,
		"a":           `error 2 1`,
		"\n":          `1 [""] 1`,
		"a\n":         `1 ["a"] 1`,
		"a b\nc\n":    `1 ["a" "b"] 2 ["c"] 2`,
		" a  b \n":    `1 ["" "a" "" "b" ""] 1`,
		"a\r\tb\n":    `1 ["a\r\tb"] 1`,
		"a\n\n":       `1 ["a"] 2 [""] 2`,
		"a\nb":        `1 ["a"] error 2 2`,
		"a\n ":        `1 ["a"] error 2 2`,
		"a\nb c\nd e": `1 ["a"] 2 ["b" "c"] error 2 3`,
	} {
		if got := told(s); got != want {
			t.Errorf("lines of %q: %s, want %s", s, got, want)
		}
	}
}

func TestNumber(t *testing.T) {
	for _, c := range []struct {
		word string
		most int
		want int // -1: it is none
	}{
		{"0", 9, 0}, {"9", 9, 9}, {"10", 9, -1}, {"10", 10, 10}, {"11", 10, -1}, {"20", 19, -1}, {"19", 19, 19},
		{"999999999", 999999999, 999999999}, {"1000000000", 999999999, -1},
		{"2147483647", 2147483647, 2147483647}, {"2147483648", 2147483647, -1}, {"2147483650", 2147483647, -1}, {"3000000000", 2147483647, -1}, {"4294967296", 2147483647, -1},
		{"18446744073709551616", 2147483647, -1}, {strings.Repeat("9", 100000), 2147483647, -1},
		{"", 99, -1}, {"00", 99, -1}, {"01", 99, -1}, {"-1", 99, -1}, {"+1", 99, -1}, {"1a", 99, -1}, {"a", 99, -1}, {" 1", 99, -1}, {"1 ", 99, -1}, {"1/", 99, -1}, {"1:", 99, -1}, {"\u0661", 99, -1}, {"1\u0661", 99, -1}, {"1\xff", 99, -1}, {"\x00", 99, -1}, {"1.0", 99, -1}, {"1_0", 99, -1},
	} {
		got, ok := Number(c.word, c.most)
		if ok != (c.want >= 0) || got != max(c.want, 0) {
			t.Errorf("Number(%.30q, %d) = %d, %v, want %d", c.word, c.most, got, ok, c.want)
		}
	}
}
