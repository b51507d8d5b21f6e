package lexer

import (
	"reflect"
	"strings"
	"testing"

	"lexer/api"
)

// plays: pieces, and by each the events that its Push tells, a dash if there are none (nil); behind the last piece comes Close. The lexer that is loaded from the bytes of this one must tell the same.
func plays(t *testing.T, x *Lexer, steps ...string) {
	t.Helper()
	playsAlone(t, x, steps)
	playsAlone(t, loaded(t, x), steps)
}

func playsAlone(t *testing.T, x *Lexer, steps []string) {
	t.Helper()
	s := x.Begin()
	w := ""
	for i, step := range steps {
		piece, want, _ := strings.Cut(step, " -> ")
		var list []api.Event
		if i == len(steps)-1 {
			list = s.Close()
			piece = "Close"
		} else {
			list = s.Push(piece)
			w += piece
		}
		wellFormed(t, w, list)
		got := short(list)
		if list == nil {
			got = "-"
		}
		if got != want {
			t.Errorf("step %d, %q: %q, want %q", i, piece, got, want)
		}
	}
	for range 3 {
		if s.Close() != nil || s.Push("a") != nil || s.Push("") != nil {
			t.Errorf("%v: more is told behind Close", steps)
		}
	}
}

// P9: the first line below the table of the document's examples.
func TestPushExample(t *testing.T) {
	plays(t, made(t, example2, wide), "a -> -", "a -> -", "a -> -", "b -> -", "a -> -", "a -> -", "a -> 1:0-4", "a -> 0:4-5", "b -> -", "Close -> 1:5-9, End 9")
	plays(t, made(t, example2, wide), "aaabaaa -> 1:0-4", "ab -> 0:4-5", "Close -> 1:5-9, End 9")
	plays(t, made(t, example2, wide), "aaabaaaab -> 1:0-4, 0:4-5", "Close -> 1:5-9, End 9")
	plays(t, made(t, example2, wide), "aaab -> -", " -> -", "aa -> -", " -> -", "a -> 1:0-4", " -> -", "a -> 0:4-5", "b -> -", " -> -", "Close -> 1:5-9, End 9")
}

// P9: a stream with nothing to look ahead for tells each event by its own last byte.
func TestPushOfNoneAhead(t *testing.T) {
	x := made(t, `mode m; o >m \(; c < \); x . abc; s - [ ]`, wide)
	plays(t, x, "Close -> End 0")
	plays(t, x, " -> -", "Close -> End 0")
	plays(t, x, "a -> -", "b -> -", "c -> 2:0-3", "Close -> End 3")
	plays(t, x, "a -> -", "b -> -", "Close -> NoMatch 0")
	plays(t, x, "a -> -", "b -> -", "b -> NoMatch 0", "c -> -", "Close -> -")
	plays(t, x, "q -> NoMatch 0", "abc -> -", "Close -> -")
	plays(t, x, "abca -> 2:0-3", "bcab -> 2:3-6", "Close -> NoMatch 6")
	plays(t, x, "( -> 0:0-1", "( -> 0:1-2", "( -> 0:2-3", "( -> Overflow 3", "( -> -", "Close -> -")
	plays(t, x, "( -> 0:0-1", ") -> 1:1-2", ") -> Underflow 2", ") -> -", "Close -> -")
	plays(t, x, "  ) -> Underflow 2", "Close -> -")
	plays(t, x, "((( -> 0:0-1, 0:1-2, 0:2-3", "    -> -", "Close -> End 6")
	plays(t, x, "((((( -> 0:0-1, 0:1-2, 0:2-3, Overflow 3", "Close -> -")
	plays(t, made(t, `mode m; x . \u{20ac}`, wide), "\xe2 -> -", "\x82 -> -", "\xac -> 0:0-3", "\xe2\x82 -> -", "\x82 -> NoMatch 3", "Close -> -")
	plays(t, made(t, `mode m; x . ()`, wide), "a -> NoMatch 0", "Close -> -")
}

// P9: with one byte ahead each event is told by the byte behind its last one, or by Close.
func TestPushOfOneAhead(t *testing.T) {
	x := made(t, `mode m; w . [a-z]+; s - [ \n]+; o >m \(; c < \)`, wide)
	plays(t, x, "a -> -", "b -> -", "  -> 0:0-2", "( -> -", ") -> 2:3-4", ") -> 3:4-5", "  -> Underflow 5", "a -> -", "Close -> -")
	plays(t, x, "( -> -", "( -> 2:0-1", "( -> 2:1-2", "( -> 2:2-3", "( -> Overflow 3", "( -> -", "Close -> -")
	plays(t, x, "(((( -> 2:0-1, 2:1-2, 2:2-3", "Close -> Overflow 3")
	plays(t, x, ") -> -", "Close -> Underflow 0")
	plays(t, x, "! -> -", "a -> NoMatch 0", "Close -> -")
	plays(t, x, "! -> -", "Close -> NoMatch 0")
	plays(t, x, "a -> -", "! -> 0:0-1", "! -> NoMatch 1", "Close -> -")
	plays(t, x, "a -> -", "! -> 0:0-1", "Close -> NoMatch 1")
	plays(t, x, "a! -> 0:0-1", "a -> NoMatch 1", "Close -> -")
	plays(t, x, "a -> -", "Close -> 0:0-1, End 1")
	plays(t, x, "a  -> 0:0-1", "  -> -", "b -> -", "Close -> 0:3-4, End 4")
	plays(t, made(t, `mode m; a . (); b . b*`, wide), "b -> -", "a -> 1:0-1", "b -> NoMatch 1", "Close -> -")
}

// P9: several bytes ahead; within the last of them all is told by Close. What begins a longer token does not hold the shorter one up.
func TestPushOfMoreAhead(t *testing.T) {
	x := made(t, `mode m; a . a; b . abcd; c . c; o >m \(; p < \)`, wide)
	plays(t, x, "a -> -", "b -> -", "c -> -", "d -> -", "a -> -", "a -> -", "a -> 1:0-4", "a -> 0:4-5", "Close -> 0:5-6, 0:6-7, 0:7-8, End 8")
	plays(t, x, "abc -> -", "a -> 0:0-1", "a -> NoMatch 1", "a -> -", "Close -> -")
	plays(t, x, "abca -> 0:0-1", "Close -> NoMatch 1")
	plays(t, x, "abcaa -> 0:0-1, NoMatch 1", "Close -> -")
	plays(t, x, "abc -> -", "Close -> 0:0-1, NoMatch 1")
	plays(t, x, "ab -> -", "Close -> 0:0-1, NoMatch 1")
	plays(t, x, "a -> -", "Close -> 0:0-1, End 1")
	plays(t, x, "caac -> 2:0-1", "Close -> 0:1-2, 0:2-3, 2:3-4, End 4")
	plays(t, x, "b -> -", "b -> -", "b -> -", "b -> NoMatch 0", "b -> -", "Close -> -")
	plays(t, x, "bbb -> -", "Close -> NoMatch 0")
	plays(t, x, ") -> -", "a -> -", "a -> -", "a -> Underflow 0", "Close -> -")
	plays(t, x, ")aa -> -", "Close -> Underflow 0")
	plays(t, x, "(((( -> 3:0-1", "Close -> 3:1-2, 3:2-3, Overflow 3")
	plays(t, x, "((( -> -", "( -> 3:0-1", "a -> 3:1-2", "a -> 3:2-3", "a -> Overflow 3", "a -> -", "Close -> -")
	plays(t, x, "Close -> End 0")
}

// P9: within the last bytes the longest token is looked for, too.
func TestCloseOfMoreAhead(t *testing.T) {
	x := made(t, `mode m; a . a; b . abcd; e . e|ef|efg`, wide)
	plays(t, x, "e -> -", "Close -> 2:0-1, End 1")
	plays(t, x, "ef -> -", "Close -> 2:0-2, End 2")
	plays(t, x, "efg -> -", "Close -> 2:0-3, End 3")
	plays(t, x, "aef -> -", "Close -> 0:0-1, 2:1-3, End 3")
	plays(t, x, "aefg -> 0:0-1", "Close -> 2:1-4, End 4")
	plays(t, x, "aefe -> 0:0-1", "Close -> 2:1-3, 2:3-4, End 4")
	plays(t, x, "eefa -> 2:0-1", "Close -> 2:1-3, 0:3-4, End 4")
	plays(t, x, "efgefef -> 2:0-3", "Close -> 2:3-5, 2:5-7, End 7")
	plays(t, x, "abcd -> -", "Close -> 1:0-4, End 4")
	plays(t, x, "aabc -> 0:0-1", "Close -> 0:1-2, NoMatch 2")
}

// P9: NoMatch is known by the first byte behind which no token can end, which may be later than the byte where it begins.
func TestPushOfNoMatch(t *testing.T) {
	x := made(t, `mode m; a . abcd; b . x|xy`, wide)
	plays(t, x, "a -> -", "b -> -", "c -> -", "c -> -", "c -> NoMatch 0", "Close -> -")
	plays(t, x, "x -> -", "a -> 1:0-1", "b -> -", "x -> -", "x -> NoMatch 1", "Close -> -")
	plays(t, x, "abcc -> -", "Close -> NoMatch 0")
	plays(t, x, "abc -> -", "Close -> NoMatch 0")
	wide2 := made(t, `mode m; a . [a\u{800}]`, wide)
	plays(t, wide2, "\xe0 -> -", "\xa0 -> -", "a -> NoMatch 0", "Close -> -")
	plays(t, wide2, "\xe0 -> -", "a -> NoMatch 0", "Close -> -")
}

// P9: a lexer that is no stream tells nothing that further bytes can change, and End by Close alone.
func TestPushOfOthers(t *testing.T) {
	more := []string{"", "a", "b", "aab", "!", "\n", "'", "''", "*/", "\xff", strings.Repeat("a", 70), strings.Repeat("ab", 40)}
	for _, c := range []struct {
		s    string
		hold int
		text string
	}{
		{example3, 64, "aaabaabaaaca"}, {example3, 3, "baabaaab"}, {example3, 2, "babaaba"}, {example2, 64, "aaabaaaab"}, {example2, 4, "aaabaaaab"}, {example2, 1, "bbbb"},
		{`mode m; c . /\*([^*]|\*+[^*/])*\*+/; s . [/*]; x . [^/*]`, 64, "a/**//*a*b*//*a"},
		{`mode m; q >s '; w . [^']; mode s; t . [^']+; q < '`, 64, "a'bc'''a\n"}, {`mode m; o >m \(; c < \)`, 2, "(()))"}, {`mode m; o >m \(; c < \)`, 2, "((((("},
		{`mode m; w . [a-z]+; s - [ ]`, 3, "ab abc abcd"}, {`mode m; w . [a-z]+; s - [ ]`, 3, "ab abc"}, {`mode m; p . ()`, 1, "ab"},
	} {
		x := made(t, c.s, holding(c.hold))
		for n := 1; n <= len(c.text); n++ {
			s := x.Begin()
			var got []api.Event
			for at := 0; at < len(c.text); at += n {
				end := min(at+n, len(c.text))
				got = append(got, s.Push(c.text[at:end])...)
				for _, rest := range more {
					want := x.Scan(c.text[:end] + rest)
					if len(got) > len(want) || len(got) > 0 && !reflect.DeepEqual(got, want[:len(got)]) || strings.Contains(short(got), "End") {
						t.Fatalf("%s, %q in pieces of %d: behind %d bytes %s, but with %q %s", c.s, c.text, n, end, short(got), rest, short(want))
					}
				}
			}
			got = append(got, s.Close()...)
			if want := x.Scan(c.text); !reflect.DeepEqual(got, want) {
				t.Fatalf("%s, %q in pieces of %d: %s, want %s", c.s, c.text, n, short(got), short(want))
			}
			if s.Push("a") != nil || s.Close() != nil {
				t.Fatalf("%s, %q: more is told behind Close", c.s, c.text)
			}
		}
	}
}

// P9: behind a last event nothing is told any more, by the same Push or by others.
func TestBehindTheLastEvent(t *testing.T) {
	for _, c := range []struct {
		s    string
		l    api.Limits
		text string
		want string
	}{
		{`mode m; a . a`, wide, "a!aaaa", "0:0-1, NoMatch 1"},
		{`mode m; a . a`, holding(64), "a!aaaa", "0:0-1, NoMatch 1"},
		{`mode m; a >m a`, wide, "aaaaaaaa", "0:0-1, 0:1-2, 0:2-3, Overflow 3"},
		{`mode m; a >m a`, holding(64), "aaaaaaaa", "0:0-1, 0:1-2, 0:2-3, Overflow 3"},
		{`mode m; a < a; b . b`, wide, "bbaabb", "1:0-1, 1:1-2, Underflow 2"},
		{`mode m; a < a; b . b`, holding(64), "bbaabb", "1:0-1, 1:1-2, Underflow 2"},
		{`mode m; a . aaa; b . b`, holding(2), "aaabbb", "Full 0"},
	} {
		x := made(t, c.s, c.l)
		for _, n := range []int{1, 2, len(c.text)} {
			s := x.Begin()
			var got []api.Event
			for at := 0; at < len(c.text); at += n {
				got = append(got, s.Push(c.text[at:min(at+n, len(c.text))])...)
			}
			if short(got) != c.want {
				t.Errorf("%s, %q in pieces of %d: %s", c.s, c.text, n, short(got))
			}
			for range 3 {
				if s.Push(c.text) != nil || s.Push("") != nil || s.Close() != nil {
					t.Errorf("%s, %q: more is told behind the last event", c.s, c.text)
				}
			}
		}
	}
}

// P2: several scanners of one lexer, and of several, by turns; and Scan between.
func TestScannersByTurns(t *testing.T) {
	var lexers []*Lexer
	for _, s := range []string{example2, example3, `mode m; o >m \(; c < \); w . [a-z]+; s - [ \n]`, `mode m; q >s '; w . [^']; mode s; t . [^']+; q < '`} {
		one, two := made(t, s, wide), made(t, s, holding(5))
		lexers = append(lexers, one, two, loaded(t, one), loaded(t, two))
	}
	type turn struct {
		x   *Lexer
		s   *Scanner
		w   string
		got []api.Event
	}
	var turns []*turn
	for _, x := range lexers {
		for _, w := range []string{"aaabaaaab", "ab", "(a b)\n(c", "a'bc'd", "", "!", "aaaaaaaaaaaa"} {
			turns = append(turns, &turn{x: x, s: x.Begin(), w: w})
		}
	}
	for i := range 12 {
		for _, p := range turns {
			if i < len(p.w) {
				p.got = append(p.got, p.s.Push(p.w[i:i+1])...)
			}
			p.x.Scan("a(b')\n")
		}
	}
	for _, p := range turns {
		p.got = append(p.got, p.s.Close()...)
	}
	for i, p := range turns {
		if want := p.x.Scan(p.w); !reflect.DeepEqual(p.got, want) {
			t.Errorf("turn %d, %q: %s, want %s", i, p.w, short(p.got), short(want))
		}
	}
}

// spoil writes into a list and into its spare room.
func spoil(list []api.Event) {
	list = list[:cap(list)]
	for i := range list {
		list[i] = api.Event{Kind: -7, Rule: -7, From: -7, To: -7, Line: -7, Col: -7}
	}
}

// P2: lists are the caller's, with their spare room, of loaded lexers too.
func TestListsOfEvents(t *testing.T) {
	for _, s := range []string{`mode m; a . a; b - b`, `mode m; a . a+; b - b`, `mode m; a . a; b . a*b`} {
		for _, l := range []api.Limits{wide, holding(9)} {
			x := made(t, s, l)
			listsAreTheCallers(t, x)
			listsAreTheCallers(t, loaded(t, x))
		}
	}
}

func listsAreTheCallers(t *testing.T, x *Lexer) {
	t.Helper()
	w := strings.Repeat("aaab", 9)
	want := x.Scan(w)
	spoil(x.Scan(w))
	one, two := x.Begin(), x.Begin()
	var got, other []api.Event
	var lists [][]api.Event
	for i := range w {
		list := one.Push(w[i : i+1])
		got = append(got, list...)
		spoil(list)
		same := two.Push(w[i : i+1])
		other = append(other, same...)
		lists = append(lists, same)
	}
	got = append(got, one.Close()...)
	end := two.Close()
	other = append(other, end...)
	for _, list := range append(lists, end) {
		spoil(append(list, api.Event{}))
	}
	if !reflect.DeepEqual(got, want) || !reflect.DeepEqual(other, want) || !reflect.DeepEqual(x.Scan(w), want) {
		t.Error("lists that are written into change others")
	}
}

// P2: no list lies in the spare room of one that was told before it.
func TestListsShareNoRoom(t *testing.T) {
	var lists [][]api.Event
	s := made(t, `mode m; a . a`, wide).Begin()
	for range 20 {
		lists = append(lists, s.Push("aaa"))
	}
	for i, list := range lists {
		if len(list) != 3 || list[0].From != 3*i || list[2].To != 3*i+3 {
			t.Fatalf("list %d: %s", i, short(list))
		}
		spoil(append(list, api.Event{}))
	}
	if got := short(s.Close()); got != "End 60" {
		t.Error(got)
	}
}

// P1: what Generate answers with an error is no lexer, and tells nothing.
func TestNoLexer(t *testing.T) {
	x, _, _ := Generate("?", wide)
	if x != nil || x.Scan("a") != nil || x.Begin().Push("a") != nil || x.Begin().Close() != nil {
		t.Error("no lexer tells something")
	}
	var s *Scanner
	if s.Push("a") != nil || s.Close() != nil || new(Scanner).Push("a") != nil || new(Scanner).Close() != nil || new(Lexer).Scan("a") != nil {
		t.Error("no scanner tells something")
	}
}

// A copy of a scanner goes on by itself.
func TestCopiesOfScanners(t *testing.T) {
	for _, l := range []api.Limits{wide, holding(64)} {
		s := made(t, example2, l).Begin()
		s.Push("aa")
		c := *s
		s.Push("ab")
		c.Push("bb")
		if got := short(s.Close()); got != "1:0-4, End 4" {
			t.Error(got)
		}
		if got := short(c.Close()); !strings.HasSuffix(got, "1:3-4, End 4") {
			t.Error(got)
		}
	}
}
