package proof

import (
	"strconv"
	"strings"

	"flows/api"
	"flows/fault"
	"flows/lines"
)

// localsWord begins the first line of a proof's text.
const localsWord = "locals"

// Text writes a proof down as a text. Nothing must be wrong in it.
func Text(p api.Proof) string {
	var text strings.Builder
	table := rules()
	writeLine(&text, localsWord, p.Locals)
	for i, n := range p.Nodes {
		rule := &table[n.Kind]
		numbers := []int{n.Level}
		for _, place := range rule.places(&n) {
			numbers = append(numbers, *place)
		}
		writeLine(&text, strconv.Itoa(i)+" "+rule.word, append(numbers, n.List...))
	}
	return text.String()
}

// writeLine writes a line's end behind words and numbers.
func writeLine(text *strings.Builder, words string, numbers []int) {
	text.WriteString(words)
	for _, n := range numbers {
		text.WriteString(" ")
		text.WriteString(strconv.Itoa(n))
	}
	text.WriteString("\n")
}

// Read tells what a proof's text says, or its first line that is none; whether it is a proof, Encode tells.
func Read(s string) (api.Proof, error) {
	var p api.Proof
	table := rules()
	err := fault.Catch(func() {
		lines.Each(s, func(line int, words []string) {
			var ok bool
			if line == 1 {
				p.Locals, ok = readLocals(words)
			} else {
				ok = readNode(&p, &table, words)
			}
			if !ok {
				fault.Raise(api.ErrSyntax, line)
			}
		})
	})
	if err != nil {
		return api.Proof{}, err
	}
	return p, nil
}

// readLocals tells the levels in the first line, or false if it is none.
func readLocals(words []string) ([]int, bool) {
	if words[0] != localsWord {
		return nil, false
	}
	return readNumbers(words[1:])
}

// readNode lays the node that is in a line behind those of the proof; false: there is none in it.
func readNode(p *api.Proof, table *[kinds]rule, words []string) bool {
	if len(words) < 3 || words[0] != strconv.Itoa(len(p.Nodes)) {
		return false
	}
	kind := kindNamed(table, words[1])
	numbers, ok := readNumbers(words[2:])
	if kind < 0 || !ok {
		return false
	}
	n := api.Node{Kind: kind, Level: numbers[0]}
	numbers = numbers[1:]
	rule := &table[kind]
	switch {
	case rule.list:
		n.List = append(n.List, numbers...)
	case len(numbers) != rule.numbers:
		return false
	}
	for i, place := range rule.places(&n) {
		*place = numbers[i]
	}
	p.Nodes = append(p.Nodes, n)
	return true
}

// kindNamed tells the kind that has a name; -1: there is none.
func kindNamed(table *[kinds]rule, word string) int {
	for kind, rule := range table {
		if rule.word == word {
			return kind
		}
	}
	return -1
}

// readNumbers tells the numbers that words are, or false if one of them is none.
func readNumbers(words []string) ([]int, bool) {
	var all []int
	for _, word := range words {
		n, ok := lines.Number(word, maxNumber)
		if !ok {
			return nil, false
		}
		all = append(all, n)
	}
	return all, true
}
