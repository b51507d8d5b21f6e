// Package tables: all that scanning asks of a lexer.
package tables

import "lexer/states"

// None is told instead of a rule where there is none. It is -1, so that a rule and one is a number for bytes.
const None = states.None

// Tables: the states of all modes, one mode's behind the other's, and what the rules do. Who has them only reads them.
type Tables struct {
	Stream bool
	Ahead  int     // how many bytes a stream looks ahead; 0, if it is none
	Hold   int     // how many bytes may be held, if it is none
	Starts []int   // by mode: the state of the empty word
	Acts   []int   // by rule: what it does, as api has it
	Pushed []int   // by rule: the mode that it pushes, or 0
	Kinds  []int   // by byte: its kind, numbered as they are met
	Count  int     // how many kinds there are
	Next   [][]int // by state and kind: a state
	Ends   []int   // by state: the rule that ends there, or None
	Live   []bool  // by state: whether a token ends there or further on
	rows   int     // how many ways there are that may lie ahead
	longer []byte  // bits, by what lies ahead and by state
}

// Make makes the tables of a lexer that is no stream. States and rules are numbered on from mode to mode.
func Make(modes []states.Mode, acts []int, pushed []int, hold int) *Tables {
	kinds, count := states.Kinds(modes)
	t := &Tables{Hold: hold, Kinds: kinds, Count: count}
	t.Acts = append(t.Acts, acts...)
	t.Pushed = append(t.Pushed, pushed...)
	rules := 0
	for _, m := range modes {
		t.addMode(m.Table, rules)
		rules += len(m.Empty)
	}
	t.findLive()
	t.setAhead(0)
	return t
}

// MakeStream makes a stream of it, that looks so far ahead.
func (t *Tables) MakeStream(ahead int) {
	t.Stream = true
	t.setAhead(ahead)
}

// Step tells the state behind a word of the state and a byte.
func (t *Tables) Step(s int, b byte) int {
	return t.Next[s][t.Kinds[b]]
}

func (t *Tables) addMode(m states.Table, rules int) {
	first := len(t.Next)
	t.Starts = append(t.Starts, first+m.Start)
	for _, row := range m.Next {
		t.Next = append(t.Next, t.byKind(row, first))
	}
	for _, rule := range m.Rules {
		if rule != None {
			rule += rules
		}
		t.Ends = append(t.Ends, rule)
	}
}

// byKind takes of each kind its first byte, as all of them lead to the same state.
func (t *Tables) byKind(row []int, first int) []int {
	var list []int
	for b, to := range row {
		if t.Kinds[b] == len(list) {
			list = append(list, first+to)
		}
	}
	return list
}

func (t *Tables) findLive() {
	for _, rule := range t.Ends {
		t.Live = append(t.Live, rule != None)
	}
	for t.spreadLive() {
	}
}

// spreadLive goes one step back from all states that are known to live, and tells whether it has found more.
func (t *Tables) spreadLive() bool {
	more := false
	for s, row := range t.Next {
		if !t.Live[s] && t.hasLive(row) {
			t.Live[s] = true
			more = true
		}
	}
	return more
}

func (t *Tables) hasLive(row []int) bool {
	for _, to := range row {
		if t.Live[to] {
			return true
		}
	}
	return false
}
