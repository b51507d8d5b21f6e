package lexer

import (
	"fmt"
	"math/rand"
	"reflect"
	"strings"
	"testing"

	"lexer/api"
)

// reader tells events by the words of P8 and P9, from the oracle's machines; it looks at whole texts, and goes back as it likes.
type reader struct {
	modes  []*machine
	live   [][]bool // by mode and state: whether a token ends there or further on
	deeds  []deed
	stream bool
	ahead  int
	hold   int
}

func newReader(modes []*machine, deeds []deed, r api.Report, hold int) *reader {
	out := &reader{modes: modes, deeds: deeds, stream: r.Stream, ahead: r.Ahead, hold: hold}
	for _, m := range modes {
		out.live = append(out.live, m.live())
	}
	return out
}

// known: an event, and how many bytes it takes to know it; 0, if Close alone tells it.
type known struct {
	event api.Event
	bytes int
}

// lengths tells of all words that begin a text, by length: the rule (of the mode) or -1, and whether the word is, or begins, a token.
func (r *reader) lengths(mode int, w string) ([]int, []bool) {
	m := r.modes[mode]
	at := 0
	rules := []int{-1}
	begins := []bool{r.live[mode][0]}
	for i := 0; i < len(w); i++ {
		at = m.next[at][w[i]]
		rules = append(rules, m.rule[at])
		begins = append(begins, r.live[mode][at])
	}
	return rules, begins
}

// firstRule: the number of the mode's first rule.
func (r *reader) firstRule(mode int) int {
	n := 0
	for _, m := range r.modes[:mode] {
		n += len(m.null)
	}
	return n
}

// eventAt: one that is no token.
func eventAt(kind int, w string, at int) api.Event {
	ahead := w[:at]
	return api.Event{Kind: kind, From: at, To: at, Line: 1 + strings.Count(ahead, "\n"), Col: at - strings.LastIndex(ahead, "\n")}
}

func (r *reader) events(w string) []known {
	var list []known
	stack := []int{0}
	at := 0
	last := func(kind, bytes int) []known { return append(list, known{eventAt(kind, w, at), bytes}) }
	for at < len(w) {
		mode := stack[len(stack)-1]
		rules, begins := r.lengths(mode, w[at:])
		if !r.stream && at+r.hold < len(w) && begins[r.hold] {
			return last(api.Full, at+r.hold+1)
		}
		length, dead := 0, 0
		for n := 1; n < len(rules); n++ {
			if rules[n] >= 0 {
				length = n
			}
			if !begins[n] && dead == 0 {
				dead = at + n
			}
		}
		if length == 0 {
			return last(api.NoMatch, dead)
		}
		rule := r.firstRule(mode) + rules[length]
		d := r.deeds[rule]
		end := at + length
		switch {
		case d.what == api.Push && len(stack) == 4:
			return last(api.Overflow, end)
		case d.what == api.Pop && len(stack) == 1:
			return last(api.Underflow, end)
		case d.what == api.Push:
			stack = append(stack, d.mode)
		case d.what == api.Pop:
			stack = stack[:len(stack)-1]
		}
		if d.what != api.Skip {
			e := eventAt(api.Token, w, at)
			e.Rule = rule
			e.To = end
			list = append(list, known{e, end})
		}
		at = end
	}
	return last(api.End, 0)
}

// all: the events alone; of those that are known by so many bytes, with Ahead more, if it is not below 0.
func (r *reader) all(w string, pushed int) []api.Event {
	var list []api.Event
	for _, k := range r.events(w) {
		if pushed < 0 || k.bytes > 0 && k.bytes+r.ahead <= pushed {
			list = append(list, k.event)
		}
	}
	return list
}

// text makes one by chance, most of it tokens that follow one another.
func (r *reader) text(m *rand.Rand) string {
	w := []byte{}
	stack := []int{0}
	for size := m.Intn(30); len(w) < size; {
		mode := stack[len(stack)-1]
		state, from := 0, len(w)
		for n := 1 + m.Intn(8); n > 0 || r.modes[mode].rule[state] < 0 && len(w) < from+20; n-- {
			b, ok := r.onward(m, mode, state)
			if !ok {
				break
			}
			w = append(w, b)
			state = r.modes[mode].next[state][b]
		}
		if rule := r.modes[mode].rule[state]; rule >= 0 {
			d := r.deeds[r.firstRule(mode)+rule]
			if d.what == api.Push {
				stack = append(stack, d.mode)
			} else if d.what == api.Pop && (len(stack) > 1 || m.Intn(3) > 0) {
				stack = append([]int{0}, stack[:len(stack)-1]...)
			}
		}
		if len(w) == from || m.Intn(12) == 0 {
			w = append(w, "ab\n\x80\xff\xc3\xf4Z"[m.Intn(8)])
		}
	}
	return string(w)
}

// onward: a byte by chance that leads to where a token may end yet.
func (r *reader) onward(m *rand.Rand, mode, state int) (byte, bool) {
	var list []byte
	for _, common := range []bool{m.Intn(3) > 0, false} {
		for b, to := range r.modes[mode].next[state] {
			if r.live[mode][to] && (!common || strings.ContainsRune("abcABZ\n\u00c2", rune(b))) {
				list = append(list, byte(b))
			}
		}
		if list != nil {
			return list[m.Intn(len(list))], true
		}
	}
	return 0, false
}

// samePushed: in pieces of any length, what is told by each Push, and by Close.
func (r *reader) samePushed(m *rand.Rand, x *Lexer, w string) error {
	s := x.Begin()
	var got []api.Event
	for at := 0; at < len(w); {
		n := min(m.Intn(1+m.Intn(8)), len(w)-at)
		list := s.Push(w[at : at+n])
		if list != nil && len(list) == 0 {
			return fmt.Errorf("an empty list that is not nil")
		}
		at += n
		got = append(got, list...)
		if r.stream {
			if want := r.all(w, at); !reflect.DeepEqual(got, want) {
				return fmt.Errorf("behind %d bytes: %v, want %v", at, got, want)
			}
			continue
		}
		for _, more := range []string{"", w[at:], "a", "\xff", r.text(m), strings.Repeat("b", 70)} {
			want := r.all(w[:at]+more, -1)
			if len(got) > len(want) || len(got) > 0 && (got[len(got)-1].Kind == api.End || !reflect.DeepEqual(got, want[:len(got)])) {
				return fmt.Errorf("behind %d bytes: %v, but %v, if %q comes", at, got, want, more)
			}
		}
	}
	got = append(got, s.Close()...)
	if want := r.all(w, -1); !reflect.DeepEqual(got, want) {
		return fmt.Errorf("in all: %v, want %v", got, want)
	}
	if s.Push("a") != nil || s.Close() != nil {
		return fmt.Errorf("more is told behind Close")
	}
	return nil
}

// tally: how often each kind of event came, of streams and of others.
type tally [2][8]int

func (c *tally) add(stream bool, list []api.Event) {
	i := 0
	if stream {
		i = 1
	}
	for _, e := range list {
		c[i][e.Kind]++
	}
}

// P8 and P9: events of specifications and texts that were made by chance, the same ones at every run.
func TestEventsAgainstTheOracle(t *testing.T) {
	makeTrie()
	m := &maker{Rand: rand.New(rand.NewSource(11))}
	count := tally{}
	for i := 0; i < 1500; i++ {
		text, modes, deeds := m.spec()
		if !fits(text, modes) {
			continue
		}
		list, ok := machines(modes)
		if !ok {
			continue
		}
		l := api.Limits{States: 200, Hold: 1 + m.Intn(1+m.Intn(64)), Force: m.Intn(4) == 0}
		x, r, e := Generate(text, l)
		if e != api.OK {
			continue
		}
		read := newReader(list, deeds, r, l.Hold)
		for k := 0; k < 8; k++ {
			w := read.text(m.Rand)
			got, want := x.Scan(w), read.all(w, -1)
			if !reflect.DeepEqual(got, want) {
				t.Fatalf("%q %v, %q: %v, want %v", text, l, w, got, want)
			}
			if err := read.samePushed(m.Rand, x, w); err != nil {
				t.Fatalf("%q %v, %q: %v", text, l, w, err)
			}
			count.add(r.Stream, got)
		}
	}
	for kind := api.Token; kind <= api.Full; kind++ {
		if count[0][kind] < 50 || (count[1][kind] < 50) != (kind == api.Full) {
			t.Errorf("too few events of kind %d: %v", kind, count)
		}
	}
}
