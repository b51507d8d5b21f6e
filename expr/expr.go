// Package expr: which texts are expressions, and how many characters they have (P5).
package expr

import "lexer/api"

// Def is a name that may stand in braces, and how many characters it stands for, as Chars tells them.
type Def struct {
	Name  string
	Chars int
}

// Chars tells how many characters an expression has, and whether the text is one.
// Whatever is above api.MaxLeaves is told as api.MaxLeaves+1: repetitions of repetitions would outgrow an int.
func Chars(text string, defs []Def) (int, bool) {
	r := &reader{text: text, defs: defs}
	n, ok := r.either()
	if !ok || r.at != len(text) {
		return 0, false
	}
	return n, true
}

// reader has read the text up to the place at, and stands within depth brackets.
type reader struct {
	text  string
	defs  []Def
	at    int
	depth int
}

// peek tells the byte that stands so far ahead. Behind the end it is 0, which has no place in an expression.
func (r *reader) peek(ahead int) byte {
	i := r.at + ahead
	if i < 0 || i >= len(r.text) {
		return 0
	}
	return r.text[i]
}

// take goes behind the word, if it comes next.
func (r *reader) take(word string) bool {
	end := r.at + len(word)
	if end > len(r.text) || r.text[r.at:end] != word {
		return false
	}
	r.at = end
	return true
}

func (r *reader) either() (int, bool) {
	n, ok := r.row()
	for ok && r.take("|") {
		more, fine := r.row()
		n = bounded(n + more)
		ok = fine
	}
	return n, ok
}

func (r *reader) row() (int, bool) {
	n, ok := r.thing()
	for ok && !r.rowEnds() {
		more, fine := r.thing()
		n = bounded(n + more)
		ok = fine
	}
	return n, ok
}

func (r *reader) rowEnds() bool {
	if r.at >= len(r.text) {
		return true
	}
	c := r.peek(0)
	return c == '|' || c == ')'
}

func (r *reader) thing() (int, bool) {
	n, ok := r.atom()
	for ok && r.isRepeated() {
		t, fine := r.howOften()
		n = bounded(n * t.factor())
		ok = fine
	}
	return n, ok
}

func (r *reader) atom() (int, bool) {
	c := r.peek(0)
	switch c {
	case '(':
		return r.bracket()
	case '{':
		return r.name()
	case '[':
		ok := r.class()
		return 1, ok
	case '\\':
		_, ok := r.escape()
		return 1, ok
	}
	if c != '.' && !isPlain(c) {
		return 0, false
	}
	r.at++
	return 1, true
}

// bracket tries "(i:" ahead of "(", as i and the colon would be characters too.
func (r *reader) bracket() (int, bool) {
	if r.depth >= api.MaxDepth {
		return 0, false
	}
	if r.take("()") {
		return 0, true
	}
	if !r.take("(i:") {
		r.at++
	}
	r.depth++
	n, ok := r.either()
	r.depth--
	if !ok || !r.take(")") {
		return 0, false
	}
	return n, true
}

// name needs no look at the signs of the name, as defs hold none but names.
func (r *reader) name() (int, bool) {
	for _, d := range r.defs {
		if r.take("{" + d.Name + "}") {
			return d.Chars, true
		}
	}
	return 0, false
}

// bounded may be taken of parts, ahead of adding or multiplying them: what was above the bound stays so, unless it stands no times, which is 0 of any number.
func bounded(n int) int {
	if n > api.MaxLeaves {
		return api.MaxLeaves + 1
	}
	return n
}

// isPlain tells whether the byte is a character that stands for itself.
func isPlain(c byte) bool {
	switch c {
	case '\\', '|', '(', ')', '[', ']', '{', '}', '*', '+', '?', '.':
		return false
	}
	return isPrinted(c)
}

func isPrinted(c byte) bool {
	return c >= 32 && c <= 126
}
