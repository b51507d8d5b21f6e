package lexer

import (
	"fmt"
	"strings"
	"testing"

	"lexer/api"
)

// made: the lexer of a specification whose lines semicolons part.
func made(t *testing.T, s string, l api.Limits) *Lexer {
	t.Helper()
	x, _, e := Generate(lines(s), l)
	if e != api.OK {
		t.Fatalf("%s: %d", s, e)
	}
	return x
}

// holding: limits of a lexer that is no stream, and that may hold so many bytes.
func holding(n int) api.Limits {
	return api.Limits{States: 200, Hold: n, Force: true}
}

var names = []string{"?", "Token", "End", "NoMatch", "Overflow", "Underflow", "Full", "Corrupt"}

// short: the events, as the document writes them.
func short(list []api.Event) string {
	var out []string
	for _, e := range list {
		if e.Kind == api.Token {
			out = append(out, fmt.Sprintf("%d:%d-%d", e.Rule, e.From, e.To))
		} else {
			out = append(out, fmt.Sprintf("%s %d", names[e.Kind], e.From))
		}
	}
	return strings.Join(out, ", ")
}

// wellFormed: lines and columns are those of the places, and events that are no tokens have no rule and no length.
func wellFormed(t *testing.T, w string, list []api.Event) {
	t.Helper()
	for _, e := range list {
		want := eventAt(e.Kind, w, e.From)
		if e.Kind == api.Token {
			want.Rule = e.Rule
			want.To = e.To
		}
		if e != want {
			t.Errorf("%q: %+v, want %+v", w, e, want)
		}
	}
}

// scans: the events of a text; also if it comes in pieces, of each length, with empty ones between; and the same of the lexer that is loaded from the bytes of this one.
func scans(t *testing.T, x *Lexer, w string, want string) {
	t.Helper()
	scansAlone(t, x, w, want)
	scansAlone(t, loaded(t, x), w, want)
}

func scansAlone(t *testing.T, x *Lexer, w string, want string) {
	t.Helper()
	list := x.Scan(w)
	wellFormed(t, w, list)
	if got := short(list); got != want {
		t.Errorf("%q: %s, want %s", w, got, want)
	}
	for n := 1; n <= len(w); n++ {
		s := x.Begin()
		list := s.Push("")
		for at := 0; at < len(w); at += n {
			list = append(list, s.Push(w[at:min(at+n, len(w))])...)
			list = append(list, s.Push("")...)
		}
		list = append(list, s.Close()...)
		wellFormed(t, w, list)
		if got := short(list); got != want {
			t.Fatalf("%q in pieces of %d: %s, want %s", w, n, got, want)
		}
	}
}

// both: the events of a text, of the lexer and of one that may not look ahead.
func both(t *testing.T, s string, w string, want string) {
	t.Helper()
	scans(t, made(t, s, wide), w, want)
	scans(t, made(t, s, holding(64)), w, want)
}

const (
	example2 = `mode m; a . a; b . a{0,3}b`
	example3 = `mode m; a . a; b . a*b`
)

// P8: the document's examples.
func TestScanExamples(t *testing.T) {
	both(t, `mode m; id . [a-z][a-z0-9]*; num . [0-9]+; ws - [ \n]+`, "ab 12", "0:0-2, 1:3-5, End 5")
	both(t, example2, "aaabaaaab", "1:0-4, 0:4-5, 1:5-9, End 9")
	both(t, example3, "aaaba", "1:0-4, 0:4-5, End 5")
	both(t, `mode m; f . [0-9]+(\.[0-9]+)?(e[0-9]+)?; d . \.; e . e`, "1.5e.2e", "0:0-3, 2:3-4, 1:4-5, 0:5-6, 2:6-7, End 7")
	both(t, `mode m; q >s '; w . [^']; mode s; t . [^']+; q < '`, "a'bc''", "1:0-1, 0:1-2, 2:2-4, 3:4-5, 0:5-6, End 6")
	both(t, `mode m; kw . (i:if|else); id . [a-zA-Z]+; ws - [ ]+`, "If elsE iff", "0:0-2, 0:3-7, 1:8-11, End 11")
	both(t, `mode m; a . ab{0,4}c; b . a; c . b; d . c`, "abbbbca", "0:0-6, 1:6-7, End 7")
	both(t, `mode m; a . (ab)*(abc)?; b . c`, "ababcabac", "0:0-5, 0:5-7, NoMatch 7")
	both(t, `mode m; u . [\u{400}-\u{4ff}]+; o . [\x00-\x7f]`, "a\u0416\x80", "1:0-1, 0:1-3, NoMatch 3")
	both(t, `mode m; o >m \(; c < \)`, "(()))", "0:0-1, 0:1-2, 1:2-3, 1:3-4, Underflow 4")
	scans(t, made(t, example3, holding(3)), "aaab", "Full 0")
}

// P8: the empty text, of streams and others, also if the first mode has no token.
func TestEmptyText(t *testing.T) {
	for _, s := range []string{example2, example3, `mode m; a . a`, `mode m; a . ()`, `mode m; a . a*`, `mode m; a < a`, `mode m; a . a; mode n; b . b`} {
		both(t, s, "", "End 0")
		scans(t, made(t, s, holding(1)), "", "End 0")
	}
}

// P8: the longest token, and of its rules the first.
func TestLongestToken(t *testing.T) {
	both(t, `mode m; a . a; b . ab; c . abc`, "abcabaab", "2:0-3, 1:3-5, 0:5-6, 1:6-8, End 8")
	both(t, `mode m; c . abc; b . ab; a . a`, "abcabaab", "0:0-3, 1:3-5, 2:5-6, 1:6-8, End 8")
	both(t, `mode m; a . a+; b . aa`, "aaab", "0:0-3, NoMatch 3")
	both(t, `mode m; b . aa; a . a+; c . b`, "aabaaab", "0:0-2, 2:2-3, 1:3-6, 2:6-7, End 7")
	both(t, `mode m; a . a; b . aaa; c . aaaaaa`, "aaaaaaaaaaa", "2:0-6, 1:6-9, 0:9-10, 0:10-11, End 11")
	both(t, `mode m; k . if; i . [a-z]+; s - [ ]`, "if iff fi i", "0:0-2, 1:3-6, 1:7-9, 1:10-11, End 11")
	both(t, `mode m; x . \u{416}; y . \u{416}\u{416}|[\x00-\x7f]`, "\u0416\u0416\u0416a", "1:0-4, 0:4-6, 1:6-7, End 7")
}

// P8: bytes that are no characters: what expressions denote is whole characters alone.
func TestBytesThatAreNoCharacters(t *testing.T) {
	all := `mode m; x . [\x00-\u{10ffff}]`
	for _, w := range []string{"\x80", "\xbf", "\xc0\x80", "\xc1\xbf", "\xe0\x80\x80", "\xe0\x9f\xbf", "\xed\xa0\x80", "\xed\xbf\xbf", "\xf0\x80\x80\x80", "\xf0\x8f\xbf\xbf", "\xf4\x90\x80\x80", "\xf5\x80\x80\x80", "\xf8", "\xff", "\xc2", "\xe1\x80", "\xf1\x80\x80", "\xc2a", "\xe1\x80a", "\xf1\x80\x80\xc2"} {
		both(t, all, w, "NoMatch 0")
		both(t, all, "\u00e9"+w, "0:0-2, NoMatch 2")
		both(t, all, "\U0010ffff\n"+w, "0:0-4, 0:4-5, NoMatch 5")
		both(t, `mode m; x . .+|\n`, "a\u0416"+w, "0:0-3, NoMatch 3")
	}
	both(t, all, "\x00\x7f\u0080\u07ff\u0800\ud7ff\ue000\uffff\U00010000\U0010ffff", "0:0-1, 0:1-2, 0:2-4, 0:4-6, 0:6-9, 0:9-12, 0:12-15, 0:15-18, 0:18-22, 0:22-26, End 26")
	both(t, `mode m; x . \xff; y . \x80`, "\u00ff\u0080\xff", "0:0-2, 1:2-4, NoMatch 4")
}

// where: of all events, the line and the column.
func where(list []api.Event) string {
	var out []string
	for _, e := range list {
		out = append(out, fmt.Sprintf("%d.%d", e.Line, e.Col))
	}
	return strings.Join(out, " ")
}

// P8: lines and columns: those of where a token begins, behind line feeds in tokens that are told and that are skipped; columns count bytes.
func TestLinesAndColumns(t *testing.T) {
	for _, c := range []struct{ s, text, want string }{
		{`mode m; w . [a-z]+; s - [ \n]+`, "", "1.1"},
		{`mode m; w . [a-z]+; s - [ \n]+`, "ab", "1.1 1.3"},
		{`mode m; w . [a-z]+; s - [ \n]+`, "ab\n", "1.1 2.1"},
		{`mode m; w . [a-z]+; s - [ \n]+`, "\n", "2.1"},
		{`mode m; w . [a-z]+; s - [ \n]+`, "\n\n\n", "4.1"},
		{`mode m; w . [a-z]+; s - [ \n]+`, " ab\n  c\n\nd e", "1.2 2.3 4.1 4.3 4.4"},
		{`mode m; w . [a-z]+; s - [ \n]+`, "a\n b!", "1.1 2.2 2.3"},
		{`mode m; w . [a-z]+; s . [ \n]+`, " ab\n  c\n\nd e", "1.1 1.2 1.4 2.3 2.4 4.1 4.2 4.3 4.4"},
		{`mode m; w . [a-z\n]+; s - [ ]`, "a\nb c\n\nd e\n", "1.1 2.3 4.3 5.1"},
		{`mode m; w . \n`, "\n\n\n", "1.1 2.1 3.1 4.1"},
		{`mode m; w . \n`, "\n\nx", "1.1 2.1 3.1"},
		{`mode m; w . [\u{80}-\u{10ffff}]|\n`, "\u00e9\u20ac\U0010ffff\u00e9\n\u00e9\n", "1.1 1.3 1.6 1.10 1.12 2.1 2.3 3.1"},
		{`mode m; w . a; s - \x0d|\x0b|\x0c|\u{85}|\u{2028}`, "\ra\va\fa\u0085a\u2028a", "1.2 1.4 1.6 1.9 1.13 1.14"},
		{`mode m; p >n \n; mode n; q < \n; r . a`, "\n\n\na", "1.1 2.1 3.1 4.1 4.2"},
		{`mode m; p >n \n; mode n; q < \n; r >n a`, "\naaa", "1.1 2.1 2.2 2.3"},
		{`mode m; q - \n; p < a`, "\n\na", "3.1"},
		{`mode m; a . a; b . a\n\n\nb; c . [\nb]`, "a\n\n\nba\n\n\na", "1.1 4.2 4.3 5.1 6.1 7.1 7.2"},
	} {
		for _, l := range []api.Limits{wide, holding(64)} {
			list := made(t, c.s, l).Scan(c.text)
			wellFormed(t, c.text, list)
			if got := where(list); got != c.want {
				t.Errorf("%s, %q: %s, want %s", c.s, c.text, got, c.want)
			}
		}
	}
	if got := where(made(t, `mode m; s - \n; a . a+`, holding(3)).Scan("\naa\n\naaaa")); got != "2.1 4.1" {
		t.Error(got)
	}
	if got := where(made(t, example3, holding(3)).Scan("baaaa")); got != "1.1 1.2" {
		t.Error(got)
	}
}

// P8: a rule that denotes the empty word takes no token of no bytes.
func TestRulesOfTheEmptyWord(t *testing.T) {
	both(t, `mode m; a . ()`, "x", "NoMatch 0")
	both(t, `mode m; a < ()`, "x", "NoMatch 0")
	both(t, `mode m; a . (); b . b`, "bbx", "1:0-1, 1:1-2, NoMatch 2")
	both(t, `mode m; a . a*; b . b`, "aabaa", "0:0-2, 1:2-3, 0:3-5, End 5")
	both(t, `mode m; a . a*; b . b*`, "aabbc", "0:0-2, 1:2-4, NoMatch 4")
	both(t, `mode m; a - a?|(bc)?`, "aabca", "End 5")
	both(t, `mode m; a . a?; b . (ab)?`, "aaba", "0:0-1, 1:1-3, 0:3-4, End 4")
	both(t, `mode m; a . a; p >n p; mode n; b . (); c . [^\x00-\u{10ffff}]*`, "ap", "0:0-1, 1:1-2, End 2")
	both(t, `mode m; a . a; p >n p; mode n; b . (); c . [^\x00-\u{10ffff}]*`, "appa", "0:0-1, 1:1-2, NoMatch 2")
}

// P8: where no token begins: at the first byte, later, and at the text's end within what would begin one.
func TestNoMatch(t *testing.T) {
	s := `mode m; a . abcd; x . x|xyyyz`
	both(t, s, "q", "NoMatch 0")
	both(t, s, "b", "NoMatch 0")
	both(t, s, "a", "NoMatch 0")
	both(t, s, "ab", "NoMatch 0")
	both(t, s, "abc", "NoMatch 0")
	both(t, s, "abcd", "0:0-4, End 4")
	both(t, s, "abcq", "NoMatch 0")
	both(t, s, "abcabcd", "NoMatch 0")
	both(t, s, "xabc", "1:0-1, NoMatch 1")
	both(t, s, "xabcx", "1:0-1, NoMatch 1")
	both(t, s, "xy", "1:0-1, NoMatch 1")
	both(t, s, "xyyy", "1:0-1, NoMatch 1")
	both(t, s, "xyyyzx", "1:0-5, 1:5-6, End 6")
	both(t, s, "xyyyx", "1:0-1, NoMatch 1")
	both(t, s, "abcdxxa", "0:0-4, 1:4-5, 1:5-6, NoMatch 6")
	both(t, `mode m; s - [ ]+; a . a`, "  a  b", "1:2-3, NoMatch 5")
	both(t, `mode m; s - [ ]+; a . aa`, "  a", "NoMatch 2")
	both(t, `mode m; p >n p; mode n; a . a`, "pp", "0:0-1, NoMatch 1")
	both(t, example3, "baab", "1:0-1, 1:1-4, End 4")
	both(t, example3, "aac", "0:0-1, 0:1-2, NoMatch 2")
}

// P8: the stack of modes: the fourth one, a fifth one, and the only one that is to go, at the text's end too.
func TestStackOfModes(t *testing.T) {
	s := `mode m; o >m \(; c < \); x . [a-z]`
	both(t, s, "(((", "0:0-1, 0:1-2, 0:2-3, End 3")
	both(t, s, "((((", "0:0-1, 0:1-2, 0:2-3, Overflow 3")
	both(t, s, "((((x", "0:0-1, 0:1-2, 0:2-3, Overflow 3")
	both(t, s, "(((x(", "0:0-1, 0:1-2, 0:2-3, 2:3-4, Overflow 4")
	both(t, s, "((()())))", "0:0-1, 0:1-2, 0:2-3, 1:3-4, 0:4-5, 1:5-6, 1:6-7, 1:7-8, Underflow 8")
	both(t, s, ")", "Underflow 0")
	both(t, s, ")x", "Underflow 0")
	both(t, s, "x)", "2:0-1, Underflow 1")
	both(t, s, "()x)", "0:0-1, 1:1-2, 2:2-3, Underflow 3")
	three := `mode a; p >b p; q . q; mode b; p >c p; q < q; r - r; mode c; p >a p; q < q`
	both(t, three, "q", "1:0-1, End 1")
	both(t, three, "pq", "0:0-1, 3:1-2, End 2")
	both(t, three, "prprq", "0:0-1, 2:2-3, NoMatch 3")
	both(t, three, "pppq", "0:0-1, 2:1-2, 5:2-3, 1:3-4, End 4")
	both(t, three, "pppp", "0:0-1, 2:1-2, 5:2-3, Overflow 3")
	both(t, three, "ppqrqq", "0:0-1, 2:1-2, 6:2-3, 3:4-5, 1:5-6, End 6")
	both(t, three, "ppqqpqq", "0:0-1, 2:1-2, 6:2-3, 3:3-4, 0:4-5, 3:5-6, 1:6-7, End 7")
	long := `mode m; o >n aa; c < bb; d . b; mode n; o >n aa; c < bb`
	both(t, long, "aaaaaaaa", "0:0-2, 3:2-4, 3:4-6, Overflow 6")
	both(t, long, "aaaaaaa", "0:0-2, 3:2-4, 3:4-6, NoMatch 6")
	both(t, long, "aabbbb", "0:0-2, 4:2-4, Underflow 4")
	both(t, long, "aabbb", "0:0-2, 4:2-4, 2:4-5, End 5")
}

// P8: the rules of a mode do not count in another one.
func TestModesAreApart(t *testing.T) {
	s := `mode m; q >s '; w . [a-z]+; mode s; t . [^'] {0,2}; q < '`
	both(t, s, "ab'cd'ef", "1:0-2, 0:2-3, 2:3-4, 2:4-5, 3:5-6, 1:6-8, End 8")
	both(t, s, "'x  y '", "0:0-1, 2:1-4, 2:4-6, 3:6-7, End 7")
	both(t, s, "1", "NoMatch 0")
	both(t, s, "'1", "0:0-1, 2:1-2, End 2")
}

// P8: Full, if as many bytes as may be held are, or begin, a token, and one more follows; even if a token has ended by then.
func TestFull(t *testing.T) {
	word := `mode m; w . [a-z]+; s - [ \n]`
	for _, hold := range []int{1, 2, 3, 10, 63, 64} {
		x := made(t, word, holding(hold))
		w := strings.Repeat("a", hold)
		scans(t, x, w, fmt.Sprintf("0:0-%d, End %d", hold, hold))
		scans(t, x, w+"a", "Full 0")
		scans(t, x, w+" ", "Full 0")
		scans(t, x, w+"\xff", "Full 0")
		if hold > 1 {
			scans(t, x, "a "+w+"a", "0:0-1, Full 2")
			scans(t, x, w[1:]+"\n"+w, fmt.Sprintf("0:0-%d, 0:%d-%d, End %d", hold-1, hold, 2*hold, 2*hold))
			scans(t, x, w[1:]+" ", fmt.Sprintf("0:0-%d, End %d", hold-1, hold))
			scans(t, x, "\n"+w+" ", "Full 1")
			scans(t, x, w[1:]+"!", fmt.Sprintf("0:0-%d, NoMatch %d", hold-1, hold-1))
		}
	}
	one := made(t, `mode m; a . a; b . bc`, holding(1))
	scans(t, one, "a", "0:0-1, End 1")
	scans(t, one, "aa", "Full 0")
	scans(t, one, "b", "NoMatch 0")
	scans(t, one, "bc", "Full 0")
	scans(t, one, "c", "NoMatch 0")
	scans(t, one, "ca", "NoMatch 0")
	three := made(t, `mode m; a . a; b . a{0,4}b`, holding(3))
	scans(t, three, "aab", "1:0-3, End 3")
	scans(t, three, "aaa", "0:0-1, 0:1-2, 0:2-3, End 3")
	scans(t, three, "aabb", "Full 0")
	scans(t, three, "aaaa", "Full 0")
	scans(t, three, "aaac", "Full 0")
	scans(t, three, "aac", "0:0-1, 0:1-2, NoMatch 2")
	scans(t, three, "aacaaaa", "0:0-1, 0:1-2, NoMatch 2")
	scans(t, three, "baab", "1:0-1, 1:1-4, End 4")
	scans(t, three, "baabb", "1:0-1, Full 1")
	scans(t, made(t, `mode m; a . .`, holding(3)), "a\u20ac", "0:0-1, 0:1-4, End 4")
	scans(t, made(t, `mode m; a . .`, holding(3)), "a\u20aca", "0:0-1, Full 1")
	scans(t, made(t, `mode m; a . .`, holding(3)), "a\U0010ffff", "0:0-1, Full 1")
	scans(t, made(t, `mode m; a . .`, holding(3)), "a\xf4\x8f\xbf", "0:0-1, NoMatch 1")
	scans(t, made(t, `mode m; a . .`, holding(3)), "a\xf4\x8fa", "0:0-1, NoMatch 1")
	scans(t, made(t, `mode m; p >n p; q < q; mode n; p >n p; q < qq`, holding(2)), "ppqqqqpppp", "0:0-1, 2:1-2, Full 2")
	scans(t, made(t, `mode m; s - x; p >m aa`, holding(2)), "xaa", "1:1-3, End 3")
	scans(t, made(t, `mode m; s - x; p >m aa`, holding(2)), "xaax", "Full 1")
	scans(t, made(t, `mode m; p < aa`, holding(2)), "aa", "Underflow 0")
	scans(t, made(t, `mode m; p < aa`, holding(2)), "aaa", "Full 0")
	scans(t, made(t, `mode m; p . ()`, holding(1)), "aaa", "NoMatch 0")
}

// P8: a stream is never full, whatever Hold is; and one without a greatest distance is none, without Force too.
func TestStreamsAreNeverFull(t *testing.T) {
	low := api.Limits{States: 200, Hold: 1}
	x := made(t, `mode m; w . [a-z]+; s - [ ]`, low)
	scans(t, x, strings.Repeat("a", 300)+" b", "0:0-300, 0:301-302, End 302")
	scans(t, made(t, `mode m; a . a; b . a*b`, low), "ab", "Full 0")
	scans(t, made(t, `mode m; a . .+`, api.Limits{States: 200, Hold: 64}), strings.Repeat("a", 64), "0:0-64, End 64")
	scans(t, made(t, `mode m; a . .+`, api.Limits{States: 200, Hold: 64}), strings.Repeat("a", 65), "Full 0")
	scans(t, made(t, `mode m; a . .+`, api.Limits{States: 200, Hold: 64}), strings.Repeat("a", 64)+"\n", "Full 0")
}

// P1: long texts.
func TestLongTexts(t *testing.T) {
	w := strings.Repeat("ab \n", 1<<18)
	for _, l := range []api.Limits{wide, holding(64)} {
		list := made(t, `mode m; w . [a-z]+; s - [ \n]+`, l).Scan(w)
		n := len(list)
		if n != 1<<18+1 || list[n-2] != (api.Event{Kind: api.Token, From: len(w) - 4, To: len(w) - 2, Line: 1 << 18, Col: 1}) || list[n-1] != eventAt(api.End, w, len(w)) {
			t.Errorf("%d events", n)
		}
	}
	w = strings.Repeat("a", 1<<17)
	if list := made(t, `mode m; a . a; b . a{4}{4}a{4}b`, wide).Scan(w); len(list) != 1<<17+1 {
		t.Errorf("%d events", len(list))
	}
}
