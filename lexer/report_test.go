package lexer

import (
	"fmt"
	"strings"
	"testing"

	"lexer/api"
)

// tells: Generate tells this of a specification whose lines semicolons part: by mode states and distance, then by rule S if it is Shadowed, E if it is Empty, else a dash, then Ahead, then whether it is a stream.
func tells(t *testing.T, s string, want string) {
	t.Helper()
	x, r, e := Generate(lines(s), wide)
	if got := written(r); e != api.OK || x == nil || got != want {
		t.Errorf("%s: %d %s, want %s", s, e, got, want)
	}
	force := wide
	force.Force = true
	x, r, e = Generate(lines(s), force)
	if got := written(r); e != api.OK || x == nil || got != strings.Replace(want, " stream", "", 1) {
		t.Errorf("%s with Force: %d %s, want the same, but no stream", s, e, got)
	}
}

func written(r api.Report) string {
	s := ""
	for _, m := range r.Modes {
		s += fmt.Sprintf("%d/%d ", m.States, m.Distance)
	}
	for i := range r.Shadowed {
		mark := ""
		if r.Shadowed[i] {
			mark = "S"
		}
		if i < len(r.Empty) && r.Empty[i] {
			mark += "E"
		}
		if mark == "" {
			mark = "-"
		}
		s += mark + " "
	}
	if len(r.Shadowed) != len(r.Empty) || r.Line != 0 {
		s += "? "
	}
	s += fmt.Sprint(r.Ahead)
	if r.Stream {
		s += " stream"
	}
	return s
}

// The document's examples: what is told.
func TestWhatExamplesTell(t *testing.T) {
	tells(t, `mode m; id . [a-z][a-z0-9]*; num . [0-9]+; ws - [ \n]+`, "5/1 - - - 1 stream")
	tells(t, `mode m; a . a; b . a{0,3}b`, "6/3 - - 3 stream")
	tells(t, `mode m; a . a; b . a*b`, "5/-1 - - -1")
	tells(t, `mode m; f . [0-9]+(\.[0-9]+)?(e[0-9]+)?; d . \.; e . e`, "9/2 - - - 2 stream")
	tells(t, `mode m; q >s '; w . [^']; mode s; t . [^']+; q < '`, "11/0 11/4 - - - - 4")
	tells(t, `mode m; kw . (i:if|else); id . [a-zA-Z]+; ws - [ ]+`, "9/1 - - - 1 stream")
	tells(t, `mode m; a . ab{0,4}c; b . a; c . b; d . c`, "10/5 - - - - 5")
	tells(t, `mode m; a . (ab)*(abc)?; b . c`, "6/2 E - 2 stream")
	tells(t, `mode m; u . [\u{400}-\u{4ff}]+; o . [\x00-\x7f]`, "5/2 - - 2 stream")
	tells(t, `mode m; o >m \(; c < \)`, "4/0 - - 0 stream")
	tells(t, `mode m; e . (((((((())))))))`, "1/0 SE 0 stream")
}

// P3: as many states as all modes together have suffice, and one less does not.
func TestLimitOfStates(t *testing.T) {
	for s, states := range map[string]int{
		`mode m; r . ()`:                                         1,
		`mode m; r . [^\x00-\u{10ffff}]`:                         1,
		`mode m; r . a`:                                          3,
		`mode m; r . .`:                                          10,
		`mode m; r . a{4}{4}a{4}a{4}`:                            26,
		`mode m; a . a; b . a*b`:                                 5,
		`mode m; r . \u{10ffff}`:                                 6,
		`mode m; r . (a|b)*a(a|b){4}`:                            33,
		`mode m; r . a; mode n; r . a`:                           6,
		`mode m; r . (); mode n; r . ()`:                         2,
		`mode m; r . .; mode n; r . .a`:                          21,
		`mode m; r . .; mode n; r . a{4}`:                        16,
		`mode m; q >s '; w . [^']; mode s; t . [^']+; q < '`:     22,
		`mode m; r . a; mode n; r . \u{416}; mode o; r . (ab)*c`: 11,
		`mode m; r . (a|b)*a(a|b){4}(a|b); mode n; r . (a|b)*a(a|b){4}(a|b); mode o; r . a{4}{4}`: 148,
	} {
		for l := 1; l <= 200; l++ {
			want := api.OK
			if l < states {
				want = api.ErrStates
			}
			answers(t, lines(s), api.Limits{States: l, Hold: 1}, want, 0)
		}
	}
	answers(t, lines(`mode m; r . [ab]*a[ab]{4}[ab]{2}`), wide, api.OK, 0)
	answers(t, lines(`mode m; r . [ab]*a[ab]{4}[ab]{3}`), wide, api.ErrStates, 0)
	answers(t, lines(`mode m; r . [ab]*a[ab]{4}{4}[ab]{4}[ab]{2}`), wide, api.ErrStates, 0)
	answers(t, lines(`mode m; r . [ab]*a[ab]{4}[ab]{2}; mode n; r . a{4}{4}{1}`), wide, api.OK, 0)
	answers(t, lines(`mode m; r . [ab]*a[ab]{4}[ab]{2}; mode n; r . [ab]*a[ab]{4}[ab]{2}`), wide, api.ErrStates, 0)
	answers(t, lines(`mode n; r . a{4}{4}; mode m; r . [ab]*a[ab]{4}[ab]{3}; mode o; r . ()`), wide, api.ErrStates, 0)
}

// P1 and P3: ErrStates is the last of errors, and with it nothing is told.
func TestErrStatesIsTheLast(t *testing.T) {
	small := api.Limits{States: 2, Hold: 1}
	many := `mode m; r . [ab]*a[ab]{4}{4}[ab]{4}`
	leaves := `mode m; r . ` + strings.Repeat("a", 25)
	for _, l := range []api.Limits{small, {States: 2, Hold: 64, Force: true}} {
		answers(t, lines(many), l, api.ErrStates, 0)
		answers(t, lines(leaves), l, api.ErrLeaves, 0)
		answers(t, lines(many+`; mode n; r . `+strings.Repeat("a", 25)), l, api.ErrLeaves, 0)
		answers(t, lines(many+`; mode n`), l, api.ErrModes, 0)
		answers(t, lines(many+`; r >n a`), l, api.ErrModes, 0)
		answers(t, lines(many+`; r . *`), l, api.ErrLine, 3)
		answers(t, lines(many)+"x", l, api.ErrLine, 3)
		answers(t, lines(many)+strings.Repeat("x", 400), l, api.ErrText, 0)
	}
	answers(t, lines(many), api.Limits{States: 2, Hold: 0}, api.ErrLimit, 0)
	answers(t, lines(many), api.Limits{States: 0, Hold: 1}, api.ErrLimit, 0)
	answers(t, lines(many), api.Limits{States: 201, Hold: 1}, api.ErrLimit, 0)
}

// P3: the bound is on kinds of words, and not on what is gone through to find them: by sets of places there would be up to millions, forth, or back, or both.
func TestFewStatesOfMuch(t *testing.T) {
	for s, want := range map[string]string{
		`mode m; a . [ab]*; b . [ab]*a[ab]{4}{4}[ab]{4}`:                                                    "3/1 E S 1 stream",
		`mode m; a . [ab]*; b . [ab]{4}{4}[ab]{4}a[ab]*`:                                                    "3/1 E S 1 stream",
		`mode m; a . [ab]*a[ab]{4}{4}[ab]{4}|[ab]+`:                                                         "3/1 - 1 stream",
		`mode m; a . [ab]{4}{4}[ab]{4}a[ab]*|[ab]*`:                                                         "3/1 E 1 stream",
		`mode m; a . [ab]*; b . [ab]*a[ab]{4}[ab]{4}|[ab]{4}[ab]{4}a[ab]*`:                                  "3/1 E S 1 stream",
		`mode m; a . ([ab]|[ab]{4}{4}[ab]{4}a)*; b . [ab]?`:                                                 "3/1 E SE 1 stream",
		`mode m; a . ([ab][ab])*|[ab]([ab][ab])*; b . [ab]*a[ab]{4}{3}[ab]{2,3}`:                            "3/1 E S 1 stream",
		`mode m; a . .*; b . .*a.{4}{4}.{4}`:                                                                "10/4 E S 4",
		`mode m; a . .{4}{4}.{4}a.*|.*`:                                                                     "10/4 E 4",
		`mode m; a . [ab]{4}{4}[ab]{4}a[ab]*`:                                                               "23/1 - 1 stream",
		`mode m; a . a; mode n; a . [ab]*; b . [ab]*a[ab]{4}{4}[ab]{4}; mode o; c . [ab]{4}{4}[ab]{4}[ab]*`: "3/0 3/1 22/1 - E S - 1 stream",
	} {
		tells(t, s, want)
	}
	answers(t, lines(`mode m; a . [ab]*; b . [ab]*a[ab]{4}{4}[ab]{4}`), api.Limits{States: 3, Hold: 1}, api.OK, 0)
	answers(t, lines(`mode m; a . [ab]*; b . [ab]*a[ab]{4}{4}[ab]{4}`), api.Limits{States: 2, Hold: 1}, api.ErrStates, 0)
}

// P6: distances.
func TestDistances(t *testing.T) {
	for s, want := range map[string]int{
		`()`:                          0,
		`a`:                           0,
		`ab*c`:                        0,
		`a|b; c; ab`:                  1,
		`a*`:                          1,
		`a; aa; aaa`:                  1,
		`a|aaa; aa`:                   1,
		`a; aaa`:                      2,
		`a|aaaa; aa`:                  2,
		`a; abc|abdd*`:                2,
		`aa|ab; a*`:                   1,
		`(aaa)*`:                      3,
		`(aaa)*|(aa)+`:                2,
		`(aaa)+|(aaaaaaa)+`:           3,
		`a; ab{4}{4}b{4}c`:            21,
		`a{4}{4}; a`:                  15,
		`a; a\u{416}`:                 2,
		`\u{7f}; \u{7f}{2}`:           1,
		`\u{80}+`:                     2,
		`\u{7ff}+`:                    2,
		`\u{800}+`:                    3,
		`\u{ffff}+`:                   3,
		`\u{10000}+`:                  4,
		`\u{10ffff}+`:                 4,
		`.+`:                          4,
		`a; a.`:                       4,
		`a; a[^\u{10000}-\u{10ffff}]`: 3,
		`a; a.b`:                      5,
		`a; a..`:                      8,
		`.; \u{416}\u{416}`:           2,
		`a; a*b`:                      -1,
		`a; b; a[^b]*b`:               -1,
		`a; (a.)*`:                    5,
		`a; a(.a)*b`:                  -1,
		`a|a(bc)*d`:                   -1,
		`a; a\u{416}*b`:               -1,
		`a; b*c; a+`:                  1,
		`x*a`:                         0,
		`x*ab?`:                       1,
		`a; x; x((a|x)(a|x))*b`:       -1,
		`a[^\x00-\u{10ffff}]*; a[^\x00-\u{10ffff}]b`: 0,
	} {
		text := "mode m\nr . " + strings.ReplaceAll(s, "; ", "\nr . ") + "\n"
		_, r, e := Generate(text, wide)
		if e != api.OK || len(r.Modes) != 1 || r.Modes[0].Distance != want || r.Ahead != want {
			t.Errorf("%s: %d %v, want the distance %d", s, e, r, want)
		}
	}
}

// P7: Ahead is the greatest of all modes' distances.
func TestAhead(t *testing.T) {
	tells(t, `mode m; a . a; mode n; a . aaa|a; mode o; a . a*`, "3/0 5/2 3/1 - - E 2 stream")
	tells(t, `mode m; a . aaa|a; mode n; a . a`, "5/2 3/0 - - 2 stream")
	tells(t, `mode m; a . aaa|a; mode n; a . a; b . a*b; mode o; a . a`, "5/2 5/-1 3/0 - - - - -1")
	tells(t, `mode m; a . a; b . a*b; mode n; a . aaa|a`, "5/-1 5/2 - - - -1")
	tells(t, `mode m; a . a; mode n; a . a; b . a*b`, "3/0 5/-1 - - - -1")
}

// P5 and P6: characters of one to four bytes, and classes over the borders between them.
func TestStatesOfCharacters(t *testing.T) {
	for s, want := range map[string]int{
		`\x00`: 3, `\x7f`: 3, `\x80`: 4, `\xff`: 4, `\u{7ff}`: 4, `\u{800}`: 5, `\u{d7ff}`: 5, `\u{e000}`: 5, `\u{ffff}`: 5, `\u{10000}`: 6, `\u{10ffff}`: 6,
		`[\x7f-\x80]`: 4, `[\u{7ff}-\u{800}]`: 6, `[\u{d7ff}-\u{e000}]`: 7, `[\u{ffff}-\u{10000}]`: 8, `[\u{10fffe}-\u{10ffff}]`: 6,
		`[\x00-\u{10ffff}]`: 10, `.`: 10, `[^a]`: 10, `[^\x00-\u{10ffff}]`: 1, `[^\x00-\x7f]`: 10, `[^\x00-\u{7ff}]`: 10, `[^\x00-\u{ffff}]`: 8, `[^\x00-\u{d7ff}]`: 8, `[^\u{e000}-\u{10ffff}]`: 7, `[^\u{d7ff}-\u{e000}]`: 13,
		`[^\x00-\u{10fffe}]`: 6, `[\u{80}-\u{7ff}]`: 4, `[\u{800}-\u{d7ff}]`: 7, `[\u{e000}-\u{ffff}]`: 5, `[\u{10000}-\u{10ffff}]`: 8, `[^\x01-\u{10ffff}]`: 3,
		`\x41\u{41}`: 4, `[\u{400}-\u{43f}]`: 4, `[\u{400}-\u{440}]`: 5, `[\u{401}-\u{47e}]`: 5,
	} {
		tells(t, `mode m; r . `+s, map[bool]string{false: fmt.Sprint(want, "/0 - 0 stream"), true: "1/0 S 0 stream"}[want == 1])
	}
}

// shadowed: which rules are shadowed, of a mode whose rules semicolons part: marks as tells has them.
func shadowed(t *testing.T, head string, rules string, want string) {
	t.Helper()
	text := head + "mode m\nr . " + strings.ReplaceAll(rules, "; ", "\nr . ") + "\n"
	_, r, e := Generate(text, wide)
	got := strings.Join(strings.Fields(written(r)), " ")
	if e != api.OK || !strings.Contains(got, " "+want+" ") || len(r.Shadowed) != len(strings.Fields(want)) {
		t.Errorf("%s: %d %s, want %s", rules, e, got, want)
	}
}

// P7: Shadowed and Empty.
func TestShadowedAndEmpty(t *testing.T) {
	shadowed(t, "", `a; a`, "- S")
	shadowed(t, "", `a; b; a`, "- - S")
	shadowed(t, "", `[ab]; a; b; c`, "- S S -")
	shadowed(t, "", `a; [ab]`, "- -")
	shadowed(t, "", `[a-m]; [n-z]; [a-z]`, "- - S")
	shadowed(t, "", `[a-m]; [n-z]; [a-z0]`, "- - -")
	shadowed(t, "", `a(bb)*; ab(bb)*; ab*`, "- - S")
	shadowed(t, "", `a(bb)*; ab(bb)*; ab*c?`, "- - -")
	shadowed(t, "", `a{1,3}; a{4,}; b; a+`, "- - - S")
	shadowed(t, "", `a{1,3}; a{3}a{2,}; b; a+`, "- - - -")
	shadowed(t, "", `.*; a; ab|c; \n`, "E S S -")
	shadowed(t, "", `(); a*; a+; ()`, "SE E S SE")
	shadowed(t, "", `a*; a+`, "E S")
	shadowed(t, "", `a+; a*`, "- SE")
	shadowed(t, "", `a?; b{0,2}; c{0}; d{0}|e; ()f; ((a*b*)*){2}`, "E E SE E - E")
	shadowed(t, "", `a{0}; (a|b){0,0}; (){4}; ()*`, "SE SE SE SE")
	shadowed(t, "", `[^\x00-\u{10ffff}]; [^\x00-\u{10ffff}]?; a[^\x00-\u{10ffff}]; [^\x00-\u{10ffff}]*a`, "S SE S -")
	shadowed(t, "", `[\u{d700}-\u{e0ff}]; [\u{d7ff}-\u{e000}]; [\u{d6ff}-\u{e000}]`, "- S -")
	// Modes do not shadow one another.
	tells(t, `mode m; a . a; mode n; b . a; c . a; mode o; d . a`, "3/0 3/0 3/0 - - S - 0 stream")
	tells(t, `mode m; a . a*; mode n; b . (); mode o; d . a*; e . a`, "3/1 1/0 3/1 E SE E S 1 stream")
}

// P5: letters' other case: a rule that all is taken of by the one ahead is shadowed.
func TestOtherCase(t *testing.T) {
	shadowed(t, "", `(i:a); a; A`, "- S S")
	shadowed(t, "", `(i:A); a; A`, "- S S")
	shadowed(t, "", `a; A`, "- -")
	shadowed(t, "", `(i:z); Z; z; (i:Z)`, "- S S S")
	shadowed(t, "", `(i:\x61\u{42}); ab; AB; aB; Ab`, "- S S S S")
	shadowed(t, "", `(i:[a-c]); [A-C]; D`, "- S -")
	shadowed(t, "", `(i:[Y-b]); [yzA]; B; C; x`, "- S S - -")
	shadowed(t, "", `(i:[^a]); A; a; [^aA]`, "- - - S")
	shadowed(t, "", `[^a]; A`, "- S")
	shadowed(t, "", `(i:[^b-y]); [A-Z]; [aAzZ]`, "- - S")
	shadowed(t, "", `(i:x(a|(b[c]))); XA; xBc; XbC`, "- S S S")
	shadowed(t, "", `(i:a)b; Ab; AB`, "- S -")
	shadowed(t, "", `((i:a)); A`, "- S")
	shadowed(t, "", `(i:(i:a)b); AB; aB`, "- S S")
	shadowed(t, "", `(i:[@-Z]); @; [a-z]; \[; \{`, "- S S - -")
	shadowed(t, "", `(i:\xe9); \xc9`, "- -")
	shadowed(t, "", `(i:k); \u{212a}`, "- -")
	shadowed(t, "", `(i:\u{416}); \u{436}`, "- -")
	shadowed(t, "let w a\n", `(i:{w}); A; a`, "- - S")
	shadowed(t, "let w [a-c]\n", `(i:x{w}); Xa; XA`, "- S -")
	shadowed(t, "let w a\n", `(i:({w})({w}|a)); aA; Aa`, "- S -")
	shadowed(t, "let w (i:a)\n", `{w}; A; a`, "- S S")
	shadowed(t, "let w (i:a)b\nlet v (i:{w}c)\n", `{v}; Abc; AbC; ABc`, "- S S -")
}

// P5: a name in braces stands for the whole expression of its line.
func TestNames(t *testing.T) {
	shadowed(t, "let w a|b\n", `{w}c; ac; bc; a`, "- S S -")
	shadowed(t, "let w ab\n", `{w}{2}; abab; abb`, "- S -")
	shadowed(t, "let w ab\n", `{w}*; abab; abb`, "E S -")
	shadowed(t, "let w a*\nlet v {w}b|c\n", `x{v}{2}; xabc; xcaab; xca; xc`, "- S S - -")
	shadowed(t, "let w ()\n", `{w}; a{w}b; ab`, "SE - S")
}

// P7: two bytes are of one kind, if they are so in all modes: 4 to the power of 5 is below the bound, and 5 to the power of 5 above it.
func TestKindsOfBytes(t *testing.T) {
	tells(t, `mode m; a . a; b . ab{4}a`, "8/5 - - 5 stream")
	tells(t, `mode m; a . a; b . ab{4}a; mode n; c . [ab]`, "8/5 3/0 - - - 5 stream")
	tells(t, `mode m; a . a; b . ab{4}a; mode n; c . b; d . a`, "8/5 4/0 - - - - 5 stream")
	tells(t, `mode m; a . a; b . ab{4}a; mode n; c . c`, "8/5 3/0 - - - 5")
	tells(t, `mode n; c . c; mode m; a . a; b . ab{4}a`, "3/0 8/5 - - - 5")
	tells(t, `mode m; a . a; b . ab{4}a; mode n; c . [a-c]`, "8/5 3/0 - - - 5")
	tells(t, `mode m; a . a; b . ab{4}a; mode n; c . [^ab\x80-\u{10ffff}]`, "8/5 3/0 - - - 5")
	tells(t, `mode m; a . a; b . ab{4}a; mode n; c . a; mode o; d . \u{7ff}`, "8/5 3/0 4/0 - - - - 5")
	tells(t, `mode m; a . a; b . ab{4}a; c . ()`, "8/5 - - SE 5 stream")
	// The first bytes of two-byte characters, and their last ones, are two kinds more.
	tells(t, `mode m; a . a; b . a[\u{80}-\u{7ff}]a; c . b`, "7/3 - - - 3 stream")
}

// P7: 54 to the power of 2 is 2,916, and 55 to the power of 2 is 3,025.
func TestBoundOfStreams(t *testing.T) {
	head := `mode m; a . abcdefghijklmnopqrstuvwx; mode n; b . ABCDEFGHIJKLMNOPQRSTUVWX; mode o; p . 0; q . 012; r . 3`
	tells(t, head, "26/0 26/0 6/2 - - - - - 2 stream")
	tells(t, head+`; s . 44`, "26/0 26/0 8/2 - - - - - - 2")
	tells(t, head+`; s . 33`, "26/0 26/0 7/2 - - - - - - 2 stream")
	tells(t, `mode m; a . a; b . a{4}{2}`, "10/7 - - 7 stream")
	tells(t, `mode m; a . a; b . a{4}{2}a`, "11/8 - - 8")
	tells(t, `mode m; a . a; b . a{4}{2}; c . b`, "11/7 - - - 7")
	tells(t, `mode m; a . .+`, "10/4 - 4")
	tells(t, `mode m; a . \u{10ffff}+`, "6/4 - 4 stream")
}

// P2: of two reports no list shares memory, with the other or with itself.
func TestListsOfReports(t *testing.T) {
	text := lines(`mode m; a . a; b . a*b; mode n; c . (); d . a*`)
	_, one, _ := Generate(text, wide)
	_, two, _ := Generate(text, wide)
	before := written(two)
	scribble(one)
	if written(two) != before {
		t.Error("lists of two reports share memory")
	}
	for i := range two.Shadowed[:cap(two.Shadowed)] {
		two.Shadowed[:cap(two.Shadowed)][i] = true
	}
	if fmt.Sprint(two.Empty) != "[false false true true]" {
		t.Error("two lists of one report share memory")
	}
}
