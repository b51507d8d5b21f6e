package lexer

import (
	"math"
	"reflect"
	"strings"
	"testing"

	"lexer/api"
)

var wide = api.Limits{States: 200, Hold: 64}

// lines: a specification of the lines that semicolons part.
func lines(s string) string {
	return strings.ReplaceAll(s, "; ", "\n") + "\n"
}

// answers: Generate answers this error and line, and a lexer if it is OK.
func answers(t *testing.T, text string, l api.Limits, want api.Errno, line int) {
	t.Helper()
	x, r, e := Generate(text, l)
	if e != want || r.Line != line || (x == nil) != (want != api.OK) {
		t.Errorf("%.60q %v: %d line %d, a lexer: %v; want %d line %d", text, l, e, r.Line, x != nil, want, line)
	}
	if e != api.OK && !reflect.DeepEqual(r, api.Report{Line: line}) {
		t.Errorf("%.60q %v: with the error %d more is told: %v", text, l, e, r)
	}
}

// P3: the limits. The mode has one state, as it has no token.
func TestLimits(t *testing.T) {
	text := lines("mode m; r . ()")
	bounds := []struct {
		n            int
		states, hold bool
	}{
		{math.MinInt, false, false}, {-200, false, false}, {-1, false, false}, {0, false, false},
		{1, true, true}, {2, true, true}, {63, true, true}, {64, true, true},
		{65, true, false}, {199, true, false}, {200, true, false}, {201, false, false}, {math.MaxInt, false, false},
	}
	for _, s := range bounds {
		for _, h := range bounds {
			want := api.ErrLimit
			if s.states && h.hold {
				want = api.OK
			}
			answers(t, text, api.Limits{States: s.n, Hold: h.n}, want, 0)
			answers(t, text, api.Limits{States: s.n, Hold: h.n, Force: true}, want, 0)
		}
	}
}

// P1 and P3: of several errors the one that is named first.
func TestOrderOfErrors(t *testing.T) {
	none := api.Limits{States: 0, Hold: 64}
	low := api.Limits{States: 200, Hold: 0}
	long := strings.Repeat("?", 401)
	leaves := "mode m; a . " + strings.Repeat("a", 25)
	for _, l := range []api.Limits{none, low, {}, {States: 201, Hold: 65, Force: true}} {
		answers(t, long, l, api.ErrLimit, 0)
		answers(t, "?", l, api.ErrLimit, 0)
		answers(t, "", l, api.ErrLimit, 0)
		answers(t, lines(leaves), l, api.ErrLimit, 0)
		answers(t, lines("mode m; a . a"), l, api.ErrLimit, 0)
	}
	answers(t, long, wide, api.ErrText, 0)
	answers(t, strings.Repeat("\n", 401), wide, api.ErrText, 0)
	answers(t, lines(leaves+"; b >n b; ?"), wide, api.ErrLine, 4)
	answers(t, lines(leaves+"; b >n b"), wide, api.ErrModes, 0)
	answers(t, lines(leaves+"; mode n"), wide, api.ErrModes, 0)
	answers(t, lines(leaves), wide, api.ErrLeaves, 0)
	answers(t, lines(leaves), api.Limits{States: 1, Hold: 1}, api.ErrLeaves, 0)
}

// P3: texts of 400 and 401 bytes.
func TestLengthOfTheText(t *testing.T) {
	text := "let w " + strings.Repeat("a", 380) + "\nmode m\nr . a"
	text = text[:6] + strings.Repeat("b", 399-len(text)) + text[6:] + "\n"
	if len(text) != 400 {
		t.Fatalf("%d bytes", len(text))
	}
	answers(t, text, wide, api.OK, 0)
	answers(t, "l"+text, wide, api.ErrText, 0)
	answers(t, strings.Repeat("x", 400), wide, api.ErrLine, 1)
	answers(t, strings.Repeat("x", 1<<20), wide, api.ErrText, 0)
}

// The document's examples, as far as they tell errors or none.
func TestExamples(t *testing.T) {
	right := []string{
		`mode m; id . [a-z][a-z0-9]*; num . [0-9]+; ws - [ \n]+`,
		`mode m; a . a; b . a{0,3}b`,
		`mode m; a . a; b . a*b`,
		`mode m; f . [0-9]+(\.[0-9]+)?(e[0-9]+)?; d . \.; e . e`,
		`mode m; q >s '; w . [^']; mode s; t . [^']+; q < '`,
		`mode m; kw . (i:if|else); id . [a-zA-Z]+; ws - [ ]+`,
		`mode m; a . ab{0,4}c; b . a; c . b; d . c`,
		`mode m; a . (ab)*(abc)?; b . c`,
		`mode m; u . [\u{400}-\u{4ff}]+; o . [\x00-\x7f]`,
		`mode m; o >m \(; c < \)`,
		`mode m; r . (((((((())))))))`,
	}
	for _, s := range right {
		answers(t, lines(s), wide, api.OK, 0)
		answers(t, lines(s), api.Limits{States: 200, Hold: 3, Force: true}, api.OK, 0)
	}
	answers(t, lines("mode m; x . x{w}"), wide, api.ErrLine, 2)
	answers(t, lines("mode m; a >n a"), wide, api.ErrModes, 0)
	answers(t, lines("mode m; r . a{4}{4}a{4}a{4}a"), wide, api.ErrLeaves, 0)
	answers(t, lines("mode m; r . ((((((((()))))))))"), wide, api.ErrLine, 2)
	answers(t, lines("mode m; r . (((((((((a)))))))))"), wide, api.ErrLine, 2)
}

// P4: what the lines may be, and how many.
func TestLines(t *testing.T) {
	answers(t, "", wide, api.ErrModes, 0)
	answers(t, "\n", wide, api.ErrLine, 1)
	answers(t, "mode m\na . a", wide, api.ErrLine, 2)
	answers(t, lines("mode m; ?; ?"), wide, api.ErrLine, 2)
	answers(t, lines("a . a; mode m"), wide, api.ErrLine, 1)
	answers(t, lines("mode abcdef; a . a"), wide, api.OK, 0)
	answers(t, lines("mode abcdefg; a . a"), wide, api.ErrLine, 1)
	answers(t, lines("mode m; a . a; mode n; a . a; mode o; a . a"), wide, api.OK, 0)
	answers(t, lines("mode m; a . a; mode n; a . a; mode o; a . a; mode p; a . a"), wide, api.ErrLine, 7)
	answers(t, "mode m\n"+strings.Repeat("a . a\n", 8), wide, api.OK, 0)
	answers(t, "mode m\n"+strings.Repeat("a . a\n", 9), wide, api.ErrLine, 10)
	answers(t, lines("let a a; let b b; let c c; let d d; mode m; a . {d}"), wide, api.OK, 0)
	answers(t, lines("let a a; let b b; let c c; let d d; let e e; mode m; a . a"), wide, api.ErrLine, 5)
	answers(t, lines("mode m; a >n a; mode n; b < b"), wide, api.OK, 0)
	answers(t, lines("mode m; a >n a; mode o; b < b"), wide, api.ErrModes, 0)
	answers(t, lines("mode m; a ! a"), wide, api.ErrLine, 2)
	answers(t, lines("mode m; mode . a"), wide, api.ErrLine, 2)
}

// P5: which expressions there are, and how many characters they have.
func TestExpressions(t *testing.T) {
	rule := func(expr string) string { return "let w ab\nmode m\nr . " + expr + "\n" }
	right := []string{
		`a|b`, `()`, `a**+?`, `a{0}`, `a{4}`, `a{0,}`, `a{1,3}`, `(i:[^a-z]{w})`, `.`, ` `, `\n\t\x00\xff\u{0}\u{10ffff}\.\_`, `[\]\^\-]`, `x{w}{2}`,
		`((((((((a))))))))`, `(a|b){4}(a|b){4}(a|b){4}`, `a*{4,}{4}b{4}c{4}`, `{w}{4}{3}`,
	}
	for _, expr := range right {
		answers(t, rule(expr), wide, api.OK, 0)
	}
	wrong := []string{
		``, `|`, `a|`, `*`, `(`, `)`, `(i:)`, `[]`, `[b-a]`, `[a`, `[^]`, `]`, `}`, `{`, `{v}`, `{2}`, `a{5}`, `a{2,1}`, `a{,1}`, `a{1`,
		`\`, `\a`, `\1`, `\ `, `\xA0`, `\x1`, `\u{}`, `\u{d800}`, `\u{110000}`, `\u{0000000}`, "\t", "\x7f", "é", `(((((((((a)))))))))`,
	}
	for _, expr := range wrong {
		answers(t, rule(expr), wide, api.ErrLine, 3)
	}
	for _, expr := range []string{`{w}{4}{3}a`, `a{4}{4}{2}`, `a{4,}{4,}b{4}c{4}d*`, `{w}{4}{3}a?`, `{w}{4}{3}{0}` + strings.Repeat(`.`, 25), `a` + strings.Repeat(`{4}`, 100)} {
		answers(t, rule(expr), wide, api.ErrLeaves, 0)
	}
}

// P2: who writes into an answer changes no later one.
func TestAnswersAreTheCallers(t *testing.T) {
	for _, text := range []string{lines("mode m; a . a; b . a*b; mode n; c < [ab]c"), lines("mode m; a ! a"), lines("mode m; a >n a")} {
		_, first, e := Generate(text, wide)
		_, spoiled, _ := Generate(text, wide)
		scribble(spoiled)
		x, again, f := Generate(text, wide)
		if e != f || !reflect.DeepEqual(first, again) || (x != nil) != (f == api.OK) {
			t.Errorf("%q: %v %d, ahead of that %v %d", text, again, f, first, e)
		}
	}
}

// scribble writes into all of a report's lists and into their spare room.
func scribble(r api.Report) {
	for i := range r.Modes[:cap(r.Modes)] {
		r.Modes[:cap(r.Modes)][i] = api.Mode{States: -7, From: "?"}
	}
	for _, l := range [][]bool{r.Shadowed, r.Empty} {
		l = l[:cap(l)]
		for i := range l {
			l[i] = !l[i]
		}
	}
}

// P1: every call ends and none panics: all that can be made of a few signs in a rule, and each part of a specification.
func TestEveryCallEnds(t *testing.T) {
	signs := []string{"a", "(", ")", "(i:", "[", "]", "-", "^", "{", "}", "2", ",", "|", "*", `\`, "u{", "\n", " ", "\x00", "\xff"}
	for _, a := range signs {
		for _, b := range signs {
			for _, c := range signs {
				check(t, "mode m\nr . "+a+b+c+"\n")
				check(t, a+b+c)
			}
		}
	}
	text := lines(`let w [a-z]{1,2}; mode m; x >n {w}(i:a|\u{42}); mode n; y < .`)
	for i := range text {
		for j := i; j <= len(text); j++ {
			check(t, text[i:j])
		}
	}
}

// check: what is told fits together.
func check(t *testing.T, text string) {
	t.Helper()
	x, r, e := Generate(text, wide)
	number := strings.Count(text, "\n") + 1
	if (x == nil) != (e != api.OK) || (r.Line > 0) != (e == api.ErrLine) || r.Line < 0 || r.Line > number {
		t.Fatalf("%q: %d line %d, a lexer: %v", text, e, r.Line, x != nil)
	}
	if (r.Modes == nil) != (e != api.OK) || (r.Shadowed == nil) != (e != api.OK) || len(r.Shadowed) != len(r.Empty) {
		t.Fatalf("%q: %d, the report is %v", text, e, r)
	}
}
