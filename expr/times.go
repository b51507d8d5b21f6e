package expr

import "lexer/api"

// isRepeated is asked behind a thing: there a brace with a digit behind it begins no name.
func (r *reader) isRepeated() bool {
	switch r.peek(0) {
	case '*', '+', '?':
		return true
	case '{':
		return isDigit(r.peek(1))
	}
	return false
}

func (r *reader) howOften() (Times, bool) {
	if r.take("*") {
		return Times{Endless: true}, true
	}
	if r.take("+") {
		return Times{Least: 1, Endless: true}, true
	}
	if r.take("?") {
		return Times{Most: 1}, true
	}
	return r.counted()
}

// counted reads {n}, {n,} and {n,m}.
func (r *reader) counted() (Times, bool) {
	r.at++
	n := r.count()
	if n < 0 {
		return Times{}, false
	}
	if r.take("}") {
		return Times{Least: n, Most: n}, true
	}
	if !r.take(",") {
		return Times{}, false
	}
	if r.take("}") {
		return Times{Least: n, Endless: true}, true
	}
	m := r.count()
	if m < n || !r.take("}") {
		return Times{}, false
	}
	return Times{Least: n, Most: m}, true
}

// count tells the number that comes next, or -1 if there is none that may stand in braces.
func (r *reader) count() int {
	c := r.peek(0)
	if !isDigit(c) || int(c-'0') > api.MaxCount {
		return -1
	}
	r.at++
	return int(c - '0')
}

func isDigit(c byte) bool {
	return c >= '0' && c <= '9'
}
