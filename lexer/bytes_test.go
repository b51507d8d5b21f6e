package lexer

import (
	"fmt"
	"math/rand"
	"reflect"
	"slices"
	"testing"

	"lexer/api"
)

// loaded: the lexer that the Bytes of another are.
func loaded(t *testing.T, x *Lexer) *Lexer {
	t.Helper()
	return loads(t, x.Bytes())
}

// P10: of specifications, what their tables must say: stream, ahead, hold, modes, rules, kinds; by rule what it does, and the mode that it pushes.
func TestBytesOfExamples(t *testing.T) {
	for _, c := range []struct {
		s    string
		l    api.Limits
		want string
		acts string
	}{
		{`mode m; id . [a-z][a-z0-9]*; num . [0-9]+; ws - [ \n]+`, wide, "1 1 64, 1 3 4", "[0 0 1] [0 0 0]"},
		{`mode m; id . [a-z][a-z0-9]*; num . [0-9]+; ws - [ \n]+`, holding(5), "0 0 5, 1 3 4", "[0 0 1] [0 0 0]"},
		{example2, api.Limits{States: 6, Hold: 1}, "1 3 1, 1 2 3", "[0 0] [0 0]"},
		{example2, holding(64), "0 0 64, 1 2 3", "[0 0] [0 0]"},
		{example3, wide, "0 0 64, 1 2 3", "[0 0] [0 0]"},
		{`mode m; f . [0-9]+(\.[0-9]+)?(e[0-9]+)?; d . \.; e . e`, wide, "1 2 64, 1 3 4", "[0 0 0] [0 0 0]"},
		{`mode m; q >s '; w . [^']; mode s; t . [^']+; q < '`, wide, "0 0 64, 2 4 13", "[2 0 0 3] [1 0 0 0]"},
		{`mode m; o >m \(; c < \)`, wide, "1 0 64, 1 2 3", "[2 3] [0 0]"},
		{`mode m; o >m \(; c < \)`, holding(2), "0 0 2, 1 2 3", "[2 3] [0 0]"},
		{`mode m; a >o a; mode n; b >n b; mode o; c >m c; d - d; e < e`, wide, "1 0 64, 3 5 6", "[2 2 2 1 3] [2 1 0 0 0]"},
		{`mode m; a . ()`, wide, "1 0 64, 1 1 1", "[0] [0]"},
		{`mode m; a . (); mode n; a - ()|a; a - b; a - c; a - d; a - e; a - f; a < g`, wide, "1 0 64, 2 8 8", "[0 1 1 1 1 1 1 3] [0 0 0 0 0 0 0 0]"},
		{`mode m; a . ab{0,4}c; b . a; c . b; d . c`, wide, "0 0 64, 1 4 4", "[0 0 0 0] [0 0 0 0]"},
		{`mode m; u . [\u{400}-\u{4ff}]+; o . [\x00-\x7f]`, wide, "1 2 64, 1 2 4", "[0 0] [0 0]"},
	} {
		x := made(t, c.s, c.l)
		l := parsed(t, x.Bytes())
		if got := fmt.Sprintf("%d %d %d, %d %d %d", l.stream, l.ahead, l.hold, l.modes, l.rules, l.kinds); l.signs != "LX" || got != c.want {
			t.Errorf("%s: %s %s, want %s", c.s, l.signs, got, c.want)
		}
		if got := fmt.Sprint(l.acts, l.pushed); got != c.acts {
			t.Errorf("%s: %s, want %s", c.s, got, c.acts)
		}
		loaded(t, x)
	}
}

// P10: kinds of bytes are numbered as they are met, the byte 0 first.
func TestKindsAsTheyAreMet(t *testing.T) {
	l := parsed(t, made(t, `mode m; a . \x02; b . [\x00\xff]; c . [ab]|a`, wide).Bytes())
	for b, k := range map[int]int{0: 0, 1: 1, 2: 2, 3: 1, 'a': 3, 'b': 3, 'c': 1, 0x7f: 1, 0x80: 1, 0xbe: 1, 0xbf: 4, 0xc0: 1, 0xc3: 5, 0xff: 1} {
		if l.kindOf[b] != k {
			t.Errorf("byte %d: kind %d, want %d", b, l.kindOf[b], k)
		}
	}
	if l.kinds != 6 {
		t.Errorf("%d kinds", l.kinds)
	}
}

// P10: the states of each mode, where it begins and what ends there: the words of example 2 by hand.
func TestStatesOfBytes(t *testing.T) {
	l := parsed(t, made(t, `mode m; x . x; mode n; a . a; b . a{0,3}b`, wide).Bytes())
	if l.ahead != 3 || l.modes != 2 {
		t.Fatal(l.ahead, l.modes)
	}
	rule := func(mode int, w string) int {
		s := l.starts[mode]
		for i := range w {
			s = l.next[s][l.kindOf[w[i]]]
		}
		return l.ends[s]
	}
	for w, want := range map[string][2]int{"": {0, 0}, "x": {1, 0}, "a": {0, 2}, "b": {0, 3}, "ab": {0, 3}, "aab": {0, 3}, "aaab": {0, 3}, "aaaab": {0, 0}, "aa": {0, 0}, "aba": {0, 0}, "xx": {0, 0}, "bb": {0, 0}} {
		if got := [2]int{rule(0, w), rule(1, w)}; got != want {
			t.Errorf("%q: %v, want %v", w, got, want)
		}
	}
	// Behind a: which three kinds ahead make a longer token; the text's end is 4.
	a := l.next[l.starts[1]][l.kindOf['a']]
	ka, kb := l.kindOf['a'], l.kindOf['b']
	if fmt.Sprint(ka, kb, l.kindOf['x'], l.kinds) != "1 2 3 4" {
		t.Fatal(ka, kb, l.kindOf['x'], l.kinds)
	}
	for i := range 125 {
		d := [3]int{i / 25, i / 5 % 5, i % 5}
		want := d[0] == kb || d[0] == ka && d[1] == kb || d[0] == ka && d[1] == ka && d[2] == kb
		if l.bits[i*l.states+a] != want {
			t.Errorf("%v ahead: %v", d, !want)
		}
	}
}

// checkTables: they say what the words of P10 ask for, by the oracle's machines.
func (r *reader) checkTables(l layout, hold int) error {
	streams := 0
	if r.stream {
		streams = 1
	}
	if l.stream != streams || l.hold != hold || r.stream && l.ahead != r.ahead || !r.stream && l.ahead != 0 || l.modes != len(r.modes) || l.rules != len(r.deeds) || l.states > 200 {
		return fmt.Errorf("%d %d %d, %d modes, %d rules, %d states", l.stream, l.ahead, l.hold, l.modes, l.rules, l.states)
	}
	for i, d := range r.deeds {
		if l.acts[i] != d.what || l.pushed[i] != d.mode {
			return fmt.Errorf("rule %d: %d %d", i, l.acts[i], l.pushed[i])
		}
	}
	known := map[string]int{}
	for b := range 256 {
		column := ""
		for _, m := range r.modes {
			for s := range m.next {
				column += string(rune(m.next[s][b]))
			}
		}
		if _, ok := known[column]; !ok {
			known[column] = len(known)
		}
		if l.kindOf[b] != known[column] {
			return fmt.Errorf("byte %d: kind %d", b, l.kindOf[b])
		}
	}
	if l.kinds != len(known) || slices.Contains(l.rest, true) {
		return fmt.Errorf("%d kinds; behind the bits %v", l.kinds, l.rest)
	}
	for i := range r.modes {
		if err := r.checkMode(l, i); err != nil {
			return err
		}
	}
	return nil
}

// checkMode goes along with the mode's machine.
func (r *reader) checkMode(l layout, mode int) error {
	m := r.modes[mode]
	seen := map[[2]int]bool{}
	todo := [][2]int{{l.starts[mode], 0}}
	for len(todo) > 0 {
		p := todo[0]
		todo = todo[1:]
		if seen[p] {
			continue
		}
		seen[p] = true
		ends := 0
		if m.rule[p[1]] >= 0 {
			ends = 1 + r.firstRule(mode) + m.rule[p[1]]
		}
		if l.ends[p[0]] != ends {
			return fmt.Errorf("mode %d: %d ends where %d must", mode, l.ends[p[0]], ends)
		}
		for b := range 256 {
			todo = append(todo, [2]int{l.next[p[0]][l.kindOf[b]], m.next[p[1]][b]})
		}
		for i := 0; ends > 0 && i < l.rows(); i++ {
			if l.bits[i*l.states+p[0]] != l.longer(p[0], i) {
				return fmt.Errorf("mode %d: bit %d of state %d", mode, i, p[0])
			}
		}
	}
	return nil
}

// shuffled: tables that say the same: states in another order, with others beside them of which most are never reached, and any bits where nothing ends.
func (l layout) shuffled(m *rand.Rand) layout {
	more := m.Intn(201 - l.states)
	old := m.Perm(l.states + more) // by new state: the old one; above those that were there any of them
	place := make([][]int, l.states)
	for s, o := range old {
		if o >= l.states {
			old[s] = m.Intn(l.states)
		}
		place[old[s]] = append(place[old[s]], s)
	}
	any := func(o int) int { return place[o][m.Intn(len(place[o]))] }
	out := l
	out.states = len(old)
	out.starts, out.next, out.ends, out.rest = nil, nil, nil, nil
	for _, s := range l.starts {
		out.starts = append(out.starts, any(s))
	}
	for _, o := range old {
		var row []int
		for _, to := range l.next[o] {
			row = append(row, any(to))
		}
		out.next = append(out.next, row)
		out.ends = append(out.ends, l.ends[o])
	}
	out.bits = make([]bool, out.states*out.rows())
	for i := range out.bits {
		o := old[i%out.states]
		out.bits[i] = l.bits[i/out.states*l.states+o]
		if l.ends[o] == 0 {
			out.bits[i] = m.Intn(2) == 0
		}
	}
	return out
}

// sameAtTheSameTime: two lexers tell the same, by each Push and by Close, in pieces of any length.
func sameAtTheSameTime(x, y *Lexer, w string) error {
	if a, b := x.Scan(w), y.Scan(w); !reflect.DeepEqual(a, b) {
		return fmt.Errorf("%q: %s, but %s", w, short(a), short(b))
	}
	for n := 1; n <= len(w); n++ {
		s, u := x.Begin(), y.Begin()
		for at := 0; at < len(w); at += n {
			piece := w[at:min(at+n, len(w))]
			if a, b := s.Push(piece), u.Push(piece); !reflect.DeepEqual(a, b) {
				return fmt.Errorf("%q in pieces of %d, at %d: %s, but %s", w, n, at, short(a), short(b))
			}
		}
		if a, b := s.Close(), u.Close(); !reflect.DeepEqual(a, b) {
			return fmt.Errorf("%q in pieces of %d, Close: %s, but %s", w, n, short(a), short(b))
		}
		if u.Push("a") != nil || u.Close() != nil {
			return fmt.Errorf("%q: more is told behind Close", w)
		}
	}
	return nil
}

// P10: tables of specifications that were made by chance against the oracle; what is loaded from them, and from tables that say the same otherwise, tells the same events at the same time.
func TestBytesAgainstTheOracle(t *testing.T) {
	makeTrie()
	m := &maker{Rand: rand.New(rand.NewSource(13))}
	count := tally{}
	for i := 0; i < 500; i++ {
		text, modes, deeds := m.spec()
		if !fits(text, modes) {
			continue
		}
		list, ok := machines(modes)
		if !ok {
			continue
		}
		l := api.Limits{States: 200, Hold: 1 + m.Intn(1+m.Intn(64)), Force: m.Intn(5) == 0}
		x, r, e := Generate(text, l)
		if e != api.OK {
			continue
		}
		read := newReader(list, deeds, r, l.Hold)
		b := x.Bytes()
		parts := parsed(t, b)
		if err := read.checkTables(parts, l.Hold); err != nil {
			t.Fatalf("%q %v: %v", text, l, err)
		}
		y := loads(t, b)
		z := loads(t, parts.shuffled(m.Rand).bytes())
		for range 4 {
			w := read.text(m.Rand)
			if err := sameAtTheSameTime(x, y, w); err != nil {
				t.Fatalf("%q %v: %v", text, l, err)
			}
			if err := sameAtTheSameTime(x, z, w); err != nil {
				t.Fatalf("%q %v, shuffled: %v", text, l, err)
			}
			if err := read.samePushed(m.Rand, y, w); err != nil {
				t.Fatalf("%q %v, loaded: %v", text, l, err)
			}
			count.add(r.Stream, y.Scan(w))
		}
	}
	for kind := api.Token; kind <= api.Full; kind++ {
		if count[0][kind] < 10 || (count[1][kind] < 10) != (kind == api.Full) {
			t.Errorf("too few events of kind %d: %v", kind, count)
		}
	}
}

// P10: a loaded lexer tells what the one tells from which it was written. (scans and plays ask a loaded one, too, wherever they are called.)
func TestLoadedExamples(t *testing.T) {
	plays(t, loaded(t, made(t, example2, wide)), "a -> -", "a -> -", "a -> -", "b -> -", "a -> -", "a -> -", "a -> 1:0-4", "a -> 0:4-5", "b -> -", "Close -> 1:5-9, End 9")
	scans(t, loaded(t, made(t, example3, holding(3))), "aaab", "Full 0")
	scans(t, loaded(t, made(t, `mode m; q >s '; w . [^']; mode s; t . [^']+; q < '`, wide)), "a'bc''", "1:0-1, 0:1-2, 2:2-4, 3:4-5, 0:5-6, End 6")
	scans(t, loaded(t, made(t, `mode m; o >m \(; c < \)`, wide)), "(()))", "0:0-1, 0:1-2, 1:2-3, 1:3-4, Underflow 4")
	plays(t, loaded(t, made(t, `mode m; w . [a-z]+; s - [ \n]+`, wide)), "a -> -", "b\n -> 0:0-2", "\n -> -", "c -> -", "! -> 0:4-5", "! -> NoMatch 5", "Close -> -")
}

// P2: lexers are changed by nothing: their Bytes are the same behind all calls, and those of two that were made alike are the same.
func TestBytesStay(t *testing.T) {
	for _, s := range []string{example2, example3, `mode m; o >m \(; c < \); w . [a-z]+; s - [ \n]`} {
		for _, l := range []api.Limits{wide, holding(3)} {
			x := made(t, s, l)
			b := x.Bytes()
			spoil(x.Scan("aaab(a b)"))
			n := x.Begin()
			n.Push("aab")
			y := loads(t, b)
			spoil(y.Scan("aaab"))
			n.Close()
			if x.Bytes() != b || y.Bytes() != b || made(t, s, l).Bytes() != b || loaded(t, y).Bytes() != b {
				t.Errorf("%s: other bytes", s)
			}
		}
	}
}

// No lexer has no bytes, and they are none.
func TestBytesOfNoLexer(t *testing.T) {
	var x *Lexer
	if x.Bytes() != "" || new(Lexer).Bytes() != "" {
		t.Error("bytes of no lexer")
	}
	refuses(t, "the empty text", "")
}
