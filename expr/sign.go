package expr

import "lexer/chars"

// class fails at the text's end too, as no member begins there.
func (r *reader) class() (chars.Set, bool) {
	r.at++
	s := chars.Set{}
	s.Others = r.take("^")
	for {
		m, ok := r.member()
		if !ok {
			return chars.Set{}, false
		}
		s.Ranges = append(s.Ranges, m)
		if r.take("]") {
			return s, true
		}
	}
}

func (r *reader) member() (chars.Range, bool) {
	first, ok := r.sign()
	if !ok || !r.take("-") {
		return chars.Range{Low: first, High: first}, ok
	}
	last, fine := r.sign()
	return chars.Range{Low: first, High: last}, fine && first <= last
}

// sign tells the character that a member begins or ends with.
func (r *reader) sign() (int, bool) {
	c := r.peek(0)
	switch c {
	case '\\':
		return r.escape()
	case '[', ']', '^', '-':
		return 0, false
	}
	if !isPrinted(c) {
		return 0, false
	}
	r.at++
	return int(c), true
}

// escape tells the character that a backslash and what stands behind it mean.
func (r *reader) escape() (int, bool) {
	r.at++
	if r.take("n") {
		return '\n', true
	}
	if r.take("t") {
		return '\t', true
	}
	if r.take("x") {
		n, digits := r.hex(2)
		return n, digits == 2
	}
	if r.take("u{") {
		n, digits := r.hex(6)
		closed := r.take("}")
		return n, closed && digits > 0 && chars.Is(n)
	}
	c := r.peek(0)
	if c < 33 || c > 126 || isDigit(c) || isLetter(c) {
		return 0, false
	}
	r.at++
	return int(c), true
}

// hex tells the number of the hexadecimal digits that come next, and how many it has read, of which there are at most so many as are wanted.
func (r *reader) hex(most int) (int, int) {
	n := 0
	for i := 0; i < most; i++ {
		d := hexDigit(r.peek(0))
		if d < 0 {
			return n, i
		}
		n = n*16 + d
		r.at++
	}
	return n, most
}

// hexDigit tells -1 of what is none, a capital letter among it.
func hexDigit(c byte) int {
	if isDigit(c) {
		return int(c - '0')
	}
	if c >= 'a' && c <= 'f' {
		return int(c-'a') + 10
	}
	return -1
}

func isLetter(c byte) bool {
	return c >= 'a' && c <= 'z' || c >= 'A' && c <= 'Z'
}
