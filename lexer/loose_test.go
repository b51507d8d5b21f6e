package lexer

import (
	"fmt"
	"math/rand"
	"reflect"
	"strings"
	"testing"

	"lexer/api"
)

// endsWell: what P10 asks of the events of any tables: in order, no token empty, one last event that is no token, and the same in pieces of every length; with lines and columns that are those of the places.
func endsWell(x *Lexer, w string, rules int) error {
	list := x.Scan(w)
	if len(list) == 0 {
		return fmt.Errorf("%q: no events", w)
	}
	at := 0
	for i, e := range list {
		if (e.Kind == api.Token) != (i < len(list)-1) || e.Kind < api.Token || e.Kind > api.Corrupt {
			return fmt.Errorf("%q: event %d: %s", w, i, short(list))
		}
		if e.From < at || e.From > len(w) || e.To < e.From || e.To > len(w) || e.Kind == api.Token && e.To == e.From {
			return fmt.Errorf("%q: event %d is out of order: %s", w, i, short(list))
		}
		want := eventAt(e.Kind, w, e.From)
		if e.Kind == api.Token {
			want.Rule, want.To = e.Rule, e.To
		}
		if e != want || e.Rule < 0 || e.Rule >= rules {
			return fmt.Errorf("%q: event %d: %+v", w, i, e)
		}
		at = e.To
	}
	for n := 1; n <= len(w); n++ {
		if err := sameInPieces(x, w, n, list); err != nil {
			return err
		}
	}
	return nil
}

// sameInPieces: in pieces of this length, with empty ones between; and nothing behind the last event.
func sameInPieces(x *Lexer, w string, n int, want []api.Event) error {
	s := x.Begin()
	var got []api.Event
	ended := false
	take := func(list []api.Event) error {
		if list != nil && len(list) == 0 || ended && list != nil {
			return fmt.Errorf("%q in pieces of %d: %v", w, n, list)
		}
		for _, e := range list {
			ended = ended || e.Kind != api.Token
			if e.Kind == api.End && len(got)+1 < len(want) {
				return fmt.Errorf("%q in pieces of %d: End too early", w, n)
			}
			got = append(got, e)
		}
		spoil(list)
		return nil
	}
	for at := 0; at < len(w); at += n {
		for _, piece := range []string{w[at:min(at+n, len(w))], ""} {
			if err := take(s.Push(piece)); err != nil {
				return err
			}
		}
	}
	for range 2 {
		if err := take(s.Close()); err != nil {
			return err
		}
		if err := take(s.Push(w)); err != nil {
			return err
		}
	}
	if !reflect.DeepEqual(got, want) {
		return fmt.Errorf("%q in pieces of %d: %s, want %s", w, n, short(got), short(want))
	}
	return nil
}

// loose: tables in which every number is within its bounds, and says anything.
func loose(m *rand.Rand) layout {
	l := simple()
	l.stream, l.hold = m.Intn(2), 1+m.Intn(1+m.Intn(64))
	l.modesTo(1+m.Intn(3), 1+m.Intn(8))
	kinds := 1 + m.Intn(1+m.Intn(5))
	if m.Intn(30) == 0 {
		kinds = 1 + m.Intn(256)
	}
	l.kindsTo(kinds)
	l.statesTo(1 + m.Intn(1+m.Intn(12)))
	if m.Intn(30) == 0 {
		l.statesTo(200)
	}
	if l.stream == 1 {
		most := 0
		for rows := kinds + 1; rows <= 3000; rows *= kinds + 1 {
			most++
		}
		l.bitsTo(m.Intn(most + 1))
	}
	for i := range l.starts {
		l.starts[i] = m.Intn(l.states)
	}
	for i := range l.acts {
		l.acts[i], l.pushed[i] = []int{api.Emit, api.Skip, api.Push, api.Push, api.Push, api.Pop}[m.Intn(6)], m.Intn(l.modes)
	}
	few := 1 + m.Intn(5)
	dead := m.Intn(2) == 0 // from state 0 nothing leads away, and most lead there
	for s := range l.next {
		for k := range l.next[s] {
			if !dead || s > 0 && m.Intn(2) == 0 {
				l.next[s][k] = m.Intn(l.states)
			}
		}
		if m.Intn(few) == 0 && (!dead || s > 0) {
			l.ends[s] = m.Intn(l.rules + 1)
		}
	}
	few = 1 + m.Intn(6)
	for i := range l.bits {
		l.bits[i] = m.Intn(few) == 0
	}
	return l
}

// text: bytes by chance, more often such as lead to where a rule ends.
func (l layout) text(m *rand.Rand) string {
	var w []byte
	state := l.starts[0]
	for range m.Intn(1 + m.Intn(40)) {
		var b byte
		for tries := 0; tries == 0 || tries < 9 && l.ends[l.next[state][l.kindOf[b]]] == 0; tries++ {
			b = "\n\x00\x01\x02ab\x80\xff"[m.Intn(8)]
		}
		w = append(w, b)
		state = l.next[state][l.kindOf[b]]
		if l.ends[state] > 0 && m.Intn(4) > 0 {
			state = l.starts[l.pushed[l.ends[state]-1]]
		}
	}
	return string(w)
}

// P10: tables that no lexer was written as, made by chance, the same ones at every run.
func TestLooseTables(t *testing.T) {
	m := rand.New(rand.NewSource(17))
	count := tally{}
	for i := 0; i < 6000; i++ {
		l := loose(m)
		b := l.bytes()
		x := loads(t, b)
		for range 4 {
			w := l.text(m)
			if err := endsWell(x, w, l.rules); err != nil {
				t.Fatalf("tables %d: %v", i, err)
			}
			count.add(l.stream == 1, x.Scan(w))
		}
		if x.Bytes() != b {
			t.Fatalf("tables %d: scanning changed them", i)
		}
	}
	for kind := api.Token; kind <= api.Full; kind++ {
		if count[0][kind] < 50 || (count[1][kind] < 50) != (kind == api.Full) {
			t.Errorf("too few events of kind %d: %v", kind, count)
		}
	}
}

// P10: all tables of two states and two kinds, with all bits of nothing and of one byte ahead.
func TestAllSmallTables(t *testing.T) {
	texts := []string{"", "\x00", "\x01", "\x00\x00", "\x00\x01", "\x01\x00", "\x01\x01", "\x01\x01\x00\x01", "\x00\x01\x01\x00\n"}
	for n := range 16 * 4 * 2 * 64 {
		l := simple()
		l.statesTo(2)
		l.kindsTo(2)
		for i := range 4 {
			l.next[i/2][i%2] = n >> i & 1
		}
		l.ends = []int{n >> 4 & 1, n >> 5 & 1}
		l.starts[0] = n >> 6 & 1
		l.bitsTo(1)
		for i := range l.bits {
			l.bits[i] = n>>(7+i)&1 == 1
		}
		x := loads(t, l.bytes())
		for _, w := range texts {
			if err := endsWell(x, w, 1); err != nil {
				t.Fatalf("tables %d: %v", n, err)
			}
		}
	}
}

// P10: bits that promise a longer token where none can come, or that deny one, in one piece and in many, up to the text's end.
func TestBitsThatLie(t *testing.T) {
	for ahead := range 4 {
		for _, lie := range []bool{false, true} {
			l := simple()
			l.next[1][1] = 0
			l.bitsTo(ahead)
			for i := range l.bits {
				l.bits[i] = lie
			}
			x := loads(t, l.bytes())
			for n := range 12 {
				for _, w := range []string{strings.Repeat("a", n), strings.Repeat("a", n) + "b", strings.Repeat("ab", n), strings.Repeat("\n", n) + "a"} {
					if err := endsWell(x, w, 1); err != nil {
						t.Errorf("%d ahead, %v: %v", ahead, lie, err)
					}
				}
			}
		}
	}
}

// P1 and P10: long texts of any tables.
func TestLongTextsOfLooseTables(t *testing.T) {
	m := rand.New(rand.NewSource(19))
	for i := 0; i < 200; i++ {
		l := loose(m)
		x := loads(t, l.bytes())
		w := make([]byte, 20000)
		for i := range w {
			w[i] = byte(m.Intn(1 + m.Intn(8)))
		}
		list := x.Scan(string(w))
		if list == nil || list[len(list)-1].Kind == api.Token {
			t.Fatalf("tables %d: %d events", i, len(list))
		}
		if err := sameInPieces(x, string(w), 777, list); err != nil {
			t.Fatalf("tables %d: in pieces of 777 other events", i)
		}
	}
}

// P2: made, loaded and loose lexers by turns, with lists that are written into.
func TestLooseTablesByTurns(t *testing.T) {
	m := rand.New(rand.NewSource(23))
	w := strings.Repeat("aab\n\x00\x01", 4)
	lexers := []*Lexer{made(t, example2, wide), loaded(t, made(t, example2, wide)), made(t, example3, wide)}
	for range 30 {
		lexers = append(lexers, loads(t, loose(m).bytes()))
	}
	var scanners []*Scanner
	var want, got [][]api.Event
	for _, x := range lexers {
		want = append(want, x.Scan(w))
		got = append(got, nil)
		scanners = append(scanners, x.Begin())
	}
	for i := range w {
		for k, s := range scanners {
			list := s.Push(w[i : i+1])
			got[k] = append(got[k], list...)
			spoil(list)
		}
	}
	for k, s := range scanners {
		list := s.Close()
		got[k] = append(got[k], list...)
		spoil(list)
	}
	if !reflect.DeepEqual(got, want) {
		t.Error("scanners by turns tell other events")
	}
}
