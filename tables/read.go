package tables

import "lexer/api"

// Load makes the tables that Bytes tells as this text; false, if it is not of that form.
func Load(text string) (*Tables, bool) {
	r := reader{text: text, right: true}
	t := &Tables{}
	s := r.head(t)
	if !r.right || len(text) != s.length() {
		return nil, false
	}
	if !hasSum(text) {
		return nil, false
	}
	r.body(t, s)
	if !r.right {
		return nil, false
	}
	t.findLive()
	return t, true
}

// sizes: how many there are of each.
type sizes struct {
	modes, rules, states, kinds, rows int
}

// length tells how many bytes tables of these sizes have in all.
func (s sizes) length() int {
	head := 5 + 2*4
	lists := 2*s.modes + 2*s.rules + 256 + 2*s.states*s.kinds + s.states
	bits := (s.states*s.rows + 7) / 8
	return head + lists + bits + sumLength
}

func (r *reader) head(t *Tables) sizes {
	r.one('L', 'L')
	r.one('X', 'X')
	t.Stream = r.one(0, 1) == 1
	t.Ahead = r.one(0, 255)
	t.Hold = r.one(1, api.MaxHold)
	s := sizes{}
	s.modes = r.two(1, api.MaxModes)
	s.rules = r.two(1, api.MaxRules)
	s.states = r.two(1, api.MaxStates)
	s.kinds = r.two(1, 256)
	s.rows = Rows(s.kinds, t.Ahead)
	if s.rows > api.MaxExt || !t.Stream && t.Ahead > 0 {
		r.right = false
	}
	t.Count = s.kinds
	t.rows = s.rows
	return s
}

func (r *reader) body(t *Tables, s sizes) {
	for i := 0; i < s.modes; i++ {
		start := r.two(0, s.states-1)
		t.Starts = append(t.Starts, start)
	}
	for i := 0; i < s.rules; i++ {
		act := r.one(api.Emit, api.Pop)
		t.Acts = append(t.Acts, act)
		mode := r.one(0, s.modes-1)
		t.Pushed = append(t.Pushed, mode)
	}
	t.Kinds = r.kinds(s.kinds)
	for i := 0; i < s.states; i++ {
		row := r.row(s)
		t.Next = append(t.Next, row)
	}
	for i := 0; i < s.states; i++ {
		rule := r.one(0, s.rules)
		t.Ends = append(t.Ends, rule-1)
	}
	t.longer = r.bits(s.states * s.rows)
}

// kinds: each is at most the next one that has not been met, and all of them must be met.
func (r *reader) kinds(count int) []int {
	var list []int
	met := 0
	for b := 0; b < 256; b++ {
		kind := r.one(0, met)
		list = append(list, kind)
		if kind == met {
			met++
		}
	}
	if met != count {
		r.right = false
	}
	return list
}

func (r *reader) row(s sizes) []int {
	var list []int
	for i := 0; i < s.kinds; i++ {
		to := r.two(0, s.states-1)
		list = append(list, to)
	}
	return list
}

// bits takes so many, and noughts behind the last up to the byte's end.
func (r *reader) bits(count int) []byte {
	var list []byte
	for ; count > 0; count -= 8 {
		most := 255
		if count < 8 {
			most = 1<<count - 1
		}
		eight := r.one(0, most)
		list = append(list, byte(eight))
	}
	return list
}

// reader takes numbers one behind the other. It is right as long as all of them are there, and within their bounds.
type reader struct {
	text  string
	at    int
	right bool
}

// one takes a byte; if it is not within its bounds, the least is told, with which one may go on.
func (r *reader) one(least int, most int) int {
	n := r.next()
	return r.within(n, least, most)
}

// two takes two bytes, the high one first.
func (r *reader) two(least int, most int) int {
	high := r.next()
	low := r.next()
	return r.within(256*high+low, least, most)
}

func (r *reader) next() int {
	if r.at >= len(r.text) {
		r.right = false
		return 0
	}
	b := r.text[r.at]
	r.at++
	return int(b)
}

func (r *reader) within(n int, least int, most int) int {
	if n < least || n > most {
		r.right = false
		return least
	}
	return n
}
