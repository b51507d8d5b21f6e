package lexer

import (
	"hash/crc32"
	"slices"
	"testing"

	"lexer/api"
)

// layout: tables as the document lays them out, in parts that a test may look at and change. How many there are of something is a number of its own, so that it may be wrong.
type layout struct {
	signs                       string
	stream, ahead, hold         int
	modes, rules, states, kinds int
	starts                      []int
	acts, pushed                []int
	kindOf                      []int
	next                        [][]int
	ends                        []int
	bits                        []bool
	rest                        []bool // behind the last bit
	more                        string // behind all bits
}

func two(n int) string {
	return string([]byte{byte(n >> 8), byte(n)})
}

// packed: eight bits to a byte, the first the lowest.
func packed(bits []bool) string {
	b := make([]byte, (len(bits)+7)/8)
	for i, is := range bits {
		if is {
			b[i/8] += 1 << (i % 8)
		}
	}
	return string(b)
}

// body: all but the sum.
func (l layout) body() string {
	s := l.signs + string([]byte{byte(l.stream), byte(l.ahead), byte(l.hold)}) + two(l.modes) + two(l.rules) + two(l.states) + two(l.kinds)
	for _, n := range l.starts {
		s += two(n)
	}
	for i, act := range l.acts {
		s += string([]byte{byte(act), byte(l.pushed[i])})
	}
	for _, k := range l.kindOf {
		s += string([]byte{byte(k)})
	}
	list := []byte(s)
	for _, row := range l.next {
		for _, n := range row {
			list = append(list, two(n)...)
		}
	}
	for _, n := range l.ends {
		list = append(list, byte(n))
	}
	return string(list) + packed(append(slices.Clone(l.bits), l.rest...)) + l.more
}

// summed: a text with its sum behind it.
func summed(s string) string {
	c := crc32.ChecksumIEEE([]byte(s))
	return s + two(int(c>>16)) + two(int(c&0xffff))
}

func (l layout) bytes() string {
	return summed(l.body())
}

// rows: how many ways there are that may lie ahead.
func (l layout) rows() int {
	n := 1
	for range l.ahead {
		n *= l.kinds + 1
	}
	return n
}

// parsed: the parts of tables that are told; their numbers are taken as they are, but the length and the sum must be right.
func parsed(t *testing.T, b string) layout {
	t.Helper()
	at := 0
	one := func() int {
		at++
		return int(b[at-1])
	}
	two := func() int {
		high := one()
		return high<<8 + one()
	}
	l := layout{signs: b[:2]}
	at = 2
	l.stream, l.ahead, l.hold = one(), one(), one()
	l.modes, l.rules, l.states, l.kinds = two(), two(), two(), two()
	for range l.modes {
		l.starts = append(l.starts, two())
	}
	for range l.rules {
		l.acts = append(l.acts, one())
		l.pushed = append(l.pushed, one())
	}
	for range 256 {
		l.kindOf = append(l.kindOf, one())
	}
	for range l.states {
		var row []int
		for range l.kinds {
			row = append(row, two())
		}
		l.next = append(l.next, row)
	}
	for range l.states {
		l.ends = append(l.ends, one())
	}
	for i := range (l.states*l.rows() + 7) / 8 * 8 {
		is := b[at+i/8]>>(i%8)&1 == 1
		if i < l.states*l.rows() {
			l.bits = append(l.bits, is)
		} else {
			l.rest = append(l.rest, is)
		}
	}
	if l.bytes() != b {
		t.Fatalf("bytes that are not laid out so, or have another sum: %q", b)
	}
	return l
}

// stepOver: the state behind a state and a digit of what lies ahead; false at the text's end.
func (l layout) stepOver(s, digit int) (int, bool) {
	if digit == l.kinds {
		return 0, false
	}
	return l.next[s][digit], true
}

// longer: with this ahead of a state, a longer token will end within it.
func (l layout) longer(s, ahead int) bool {
	var digits []int
	for range l.ahead {
		digits = append([]int{ahead % (l.kinds + 1)}, digits...)
		ahead /= l.kinds + 1
	}
	for _, d := range digits {
		to, ok := l.stepOver(s, d)
		if !ok {
			return false
		}
		if l.ends[to] > 0 {
			return true
		}
		s = to
	}
	return false
}

// loads: what is told is a lexer, whose Bytes are the same again.
func loads(t *testing.T, b string) *Lexer {
	t.Helper()
	x, e := Load(b)
	if e != api.OK || x == nil {
		t.Fatalf("%d: %.40q", e, b)
	}
	if x.Bytes() != b || x.Bytes() != b {
		t.Fatalf("other bytes: %.40q", b)
	}
	return x
}

// refuses: it is no lexer.
func refuses(t *testing.T, name string, b string) {
	t.Helper()
	if x, e := Load(b); e != api.ErrBytes || x != nil {
		t.Errorf("%s: %d, a lexer: %v", name, e, x != nil)
	}
}

// simple: tables of one mode, one rule and three states: a single a is a token. Its kinds are two; it is a stream with nothing ahead.
func simple() layout {
	l := layout{signs: "LX", stream: 1, hold: 9, modes: 1, rules: 1, states: 3, kinds: 2, starts: []int{0}, acts: []int{0}, pushed: []int{0}, kindOf: make([]int, 256)}
	l.kindOf['a'] = 1
	l.next = [][]int{{2, 1}, {2, 2}, {2, 2}}
	l.ends = []int{0, 1, 0}
	l.bits = make([]bool, 3)
	return l
}

// kindsTo: the bytes have so many kinds, in turn.
func (l *layout) kindsTo(n int) {
	l.kinds = n
	for b := range l.kindOf {
		l.kindOf[b] = b % n
	}
	for s := range l.next {
		l.next[s] = make([]int, n)
	}
	l.bitsTo(l.ahead)
}

// statesTo: there are so many states, all of which lead to the first.
func (l *layout) statesTo(n int) {
	l.states = n
	l.ends = make([]int, n)
	l.next = nil
	for range n {
		l.next = append(l.next, make([]int, l.kinds))
	}
	l.bitsTo(l.ahead)
}

// bitsTo: one looks so far ahead.
func (l *layout) bitsTo(ahead int) {
	l.ahead = ahead
	l.bits = make([]bool, l.states*l.rows())
}

// modesTo: there are so many modes, and rules.
func (l *layout) modesTo(modes, rules int) {
	l.modes, l.rules = modes, rules
	l.starts, l.acts, l.pushed = make([]int, modes), make([]int, rules), make([]int, rules)
}
