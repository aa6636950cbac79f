package shape_test

import (
	"slices"
	"strings"
)

// A grammar is held against texts by Earley's way: it is another way than the program's,
// and by it a byte is refused just where no text of the grammar goes on with it.
type grammar []rule

// Of a rule, a word that begins with a quote stands for one of the bytes behind the quote,
// any other one for the rules of that name. No rule is empty.
type rule struct {
	name  string
	words []string
}

const letters = "abcdefghijklmnopqrstuvwxyz"

var exprGrammar = grammar{
	{"expr", []string{"'\\", "'" + letters, "'.", "expr"}},
	{"expr", []string{"'@", "'" + letters, "'=", "expr", "';", "expr"}},
	{"expr", []string{"calls"}},
	{"calls", []string{"atom"}},
	{"calls", []string{"calls", "atom"}},
	{"atom", []string{"'" + letters + "NCPLRJEAYD0123456789TF"}},
	{"atom", []string{"'(", "expr", "')"}},
}

var typeGrammar = grammar{
	{"type", []string{"prod"}},
	{"type", []string{"prod", "'>", "type"}},
	{"prod", []string{"unit"}},
	{"prod", []string{"prod", "'*", "unit"}},
	{"unit", []string{"'IB" + letters}},
	{"unit", []string{"'" + letters, "'123456789"}},
	{"unit", []string{"'[", "type", "']"}},
	{"unit", []string{"'(", "type", "')"}},
}

var typedGrammar = append(grammar{
	{"typed", []string{"'\\", "'" + letters, "':", "type", "'.", "typed"}},
	{"typed", []string{"'@", "'" + letters, "'<", "'>", "'=", "typed", "';", "typed"}},
	{"typed", []string{"'@", "'" + letters, "'<", "variables", "'>", "'=", "typed", "';", "typed"}},
	{"typed", []string{"calls"}},
	{"calls", []string{"atom"}},
	{"calls", []string{"calls", "atom"}},
	{"atom", []string{"'" + letters + "NCPLRJEAYD"}},
	{"atom", []string{"'" + letters + "NCPLRJEAYD", "'{", "types", "'}"}},
	{"atom", []string{"'0123456789TF"}},
	{"atom", []string{"'(", "typed", "')"}},
	{"types", []string{"type"}},
	{"types", []string{"types", "',", "type"}},
	{"variables", []string{"variable"}},
	{"variables", []string{"variables", "variable"}},
	{"variable", []string{"'" + letters}},
	{"variable", []string{"'" + letters, "'123456789"}},
}, typeGrammar...)

// A state is a rule that is gone through as far as done, begun at the byte from.
type state struct {
	rule, done, from int
}

// The rows of the bytes ahead: one more of them than bytes.
type rows [][]state

func (g grammar) next(s state) string {
	if words := g[s.rule].words; s.done < len(words) {
		return words[s.done]
	}
	return ""
}

func (g grammar) begin() rows {
	var first []state
	for i, r := range g {
		if r.name == g[0].name {
			first = append(first, state{rule: i})
		}
	}
	return g.closed(nil, first)
}

// step answers the rows behind one more byte, or nil if no text goes on with it.
func (g grammar) step(ahead rows, b byte) rows {
	var row []state
	for _, s := range ahead[len(ahead)-1] {
		if w := g.next(s); strings.HasPrefix(w, "'") && strings.IndexByte(w[1:], b) >= 0 {
			row = append(row, state{s.rule, s.done + 1, s.from})
		}
	}
	if row == nil {
		return nil
	}
	return g.closed(ahead, row)
}

func (g grammar) closed(ahead rows, row []state) rows {
	add := func(s state) {
		if !slices.Contains(row, s) {
			row = append(row, s)
		}
	}
	for i := 0; i < len(row); i++ {
		s := row[i]
		w := g.next(s)
		if w == "" {
			for _, before := range ahead[s.from] {
				if g.next(before) == g[s.rule].name {
					add(state{before.rule, before.done + 1, before.from})
				}
			}
			continue
		}
		for j, r := range g {
			if r.name == w {
				add(state{rule: j, from: len(ahead)})
			}
		}
	}
	return append(slices.Clip(ahead), row)
}

func (g grammar) whole(ahead rows) bool {
	for _, s := range ahead[len(ahead)-1] {
		if s.from == 0 && g.next(s) == "" && g[s.rule].name == g[0].name {
			return true
		}
	}
	return false
}

// place answers the place of the first byte that is wrong, and whether one is.
func (g grammar) place(text string) (int, bool) {
	at := g.begin()
	for i := range len(text) {
		if at = g.step(at, text[i]); at == nil {
			return i, true
		}
	}
	if !g.whole(at) {
		return len(text), true
	}
	return 0, false
}

// beginnings hands out all texts of at most that many bytes, of those of the alphabet,
// with which a text of the grammar begins.
func (g grammar) beginnings(most int, alphabet string, hand func(text string, at rows)) {
	var walk func(text string, at rows)
	walk = func(text string, at rows) {
		hand(text, at)
		if len(text) == most {
			return
		}
		for i := range len(alphabet) {
			if on := g.step(at, alphabet[i]); on != nil {
				walk(text+alphabet[i:i+1], on)
			}
		}
	}
	walk("", g.begin())
}
