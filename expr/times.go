package expr

import "lexer/api"

// times: how often a thing may stand; where it is endless, most says nothing.
type times struct {
	least, most int
	endless     bool
}

// factor tells how many times the characters of what is repeated a repetition has.
func (t times) factor() int {
	if !t.endless {
		return t.most
	}
	if t.least == 0 {
		return 1
	}
	return t.least
}

// isRepeated is asked behind a thing: there a brace with a digit behind it begins no name.
func (r *reader) isRepeated() bool {
	switch r.peek(0) {
	case '*', '+', '?':
		return true
	case '{':
		return isDigit(r.peek(1))
	}
	return false
}

func (r *reader) howOften() (times, bool) {
	if r.take("*") {
		return times{endless: true}, true
	}
	if r.take("+") {
		return times{least: 1, endless: true}, true
	}
	if r.take("?") {
		return times{most: 1}, true
	}
	return r.counted()
}

// counted reads {n}, {n,} and {n,m}.
func (r *reader) counted() (times, bool) {
	r.at++
	n := r.count()
	if n < 0 {
		return times{}, false
	}
	if r.take("}") {
		return times{least: n, most: n}, true
	}
	if !r.take(",") {
		return times{}, false
	}
	if r.take("}") {
		return times{least: n, endless: true}, true
	}
	m := r.count()
	if m < n || !r.take("}") {
		return times{}, false
	}
	return times{least: n, most: m}, true
}

// count tells the number that comes next, or -1 if there is none that may stand in braces.
func (r *reader) count() int {
	c := r.peek(0)
	if !isDigit(c) || int(c-'0') > api.MaxCount {
		return -1
	}
	r.at++
	return int(c - '0')
}

func isDigit(c byte) bool {
	return c >= '0' && c <= '9'
}
