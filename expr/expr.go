// Package expr: which texts are expressions, what they denote, and how many characters they have (P5).
package expr

import (
	"lexer/api"
	"lexer/chars"
)

// Def is a name that may stand in braces, and what it stands for.
type Def struct {
	Name string
	Tree *Tree
}

// Read makes the tree of an expression, and tells whether the text is one.
func Read(text string, defs []Def) (*Tree, bool) {
	r := &reader{text: text, defs: defs}
	t, ok := r.either()
	if !ok || r.at != len(text) {
		return nil, false
	}
	return t, true
}

// reader has read the text up to the place at, and stands within depth brackets; bothCases is whether "(i:" is one of them.
type reader struct {
	text      string
	defs      []Def
	at        int
	depth     int
	bothCases bool
}

// peek tells the byte that stands so far ahead. Behind the end it is 0, which has no place in an expression.
func (r *reader) peek(ahead int) byte {
	i := r.at + ahead
	if i < 0 || i >= len(r.text) {
		return 0
	}
	return r.text[i]
}

// take goes behind the word, if it comes next.
func (r *reader) take(word string) bool {
	end := r.at + len(word)
	if end > len(r.text) || r.text[r.at:end] != word {
		return false
	}
	r.at = end
	return true
}

func (r *reader) either() (*Tree, bool) {
	t := &Tree{Kind: Either}
	for {
		part, ok := r.row()
		if !ok {
			return nil, false
		}
		t.add(part)
		if !r.take("|") {
			return t.plain(), true
		}
	}
}

func (r *reader) row() (*Tree, bool) {
	t := &Tree{Kind: Row}
	for {
		part, ok := r.thing()
		if !ok {
			return nil, false
		}
		t.add(part)
		if r.rowEnds() {
			return t.plain(), true
		}
	}
}

func (r *reader) rowEnds() bool {
	if r.at >= len(r.text) {
		return true
	}
	c := r.peek(0)
	return c == '|' || c == ')'
}

func (r *reader) thing() (*Tree, bool) {
	t, ok := r.atom()
	for ok && r.isRepeated() {
		often, fine := r.howOften()
		t = again(t, often)
		ok = fine
	}
	return t, ok
}

func (r *reader) atom() (*Tree, bool) {
	switch r.peek(0) {
	case '(':
		return r.bracket()
	case '{':
		return r.name()
	}
	s, ok := r.set()
	if !ok {
		return nil, false
	}
	if r.bothCases {
		s = s.BothCases()
	}
	return one(s), true
}

// set reads what stands for one character.
func (r *reader) set() (chars.Set, bool) {
	c := r.peek(0)
	switch c {
	case '[':
		return r.class()
	case '\\':
		n, ok := r.escape()
		return chars.One(n), ok
	case '.':
		r.at++
		return chars.Dot(), true
	}
	if !isPlain(c) {
		return chars.Set{}, false
	}
	r.at++
	return chars.One(int(c)), true
}

// bracket tries "(i:" ahead of "(", as i and the colon would be characters too.
func (r *reader) bracket() (*Tree, bool) {
	if r.depth >= api.MaxDepth {
		return nil, false
	}
	if r.take("()") {
		return &Tree{Kind: Empty}, true
	}
	outside := r.bothCases
	if r.take("(i:") {
		r.bothCases = true
	} else {
		r.at++
	}
	r.depth++
	t, ok := r.either()
	r.depth--
	r.bothCases = outside
	if !ok || !r.take(")") {
		return nil, false
	}
	return t, true
}

// name needs no look at the signs of the name, as defs hold none but names.
func (r *reader) name() (*Tree, bool) {
	for _, d := range r.defs {
		if r.take("{" + d.Name + "}") {
			return d.Tree, true
		}
	}
	return nil, false
}

// isPlain tells whether the byte is a character that stands for itself.
func isPlain(c byte) bool {
	switch c {
	case '\\', '|', '(', ')', '[', ']', '{', '}', '*', '+', '?', '.':
		return false
	}
	return isPrinted(c)
}

func isPrinted(c byte) bool {
	return c >= 32 && c <= 126
}
