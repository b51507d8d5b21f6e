package lexer

import (
	"strings"
	"testing"

	"lexer/api"
)

// isToken: the word is a token of the lexer's first mode.
func isToken(x *Lexer, w string) bool {
	list := x.Scan(w)
	return len(list) == 2 && list[0].Kind == api.Token && list[0].To == len(w) && list[1].Kind == api.End
}

// isPair: both are tokens, the first begins the second, and no word between is a token.
func isPair(x *Lexer, from, to string) bool {
	for n := len(from) + 1; n < len(to); n++ {
		if isToken(x, to[:n]) {
			return false
		}
	}
	return len(from) < len(to) && strings.HasPrefix(to, from) && isToken(x, from) && isToken(x, to)
}

// shown: the words show the mode's distance, which is that; x is a lexer whose first mode it is.
func shown(t *testing.T, x *Lexer, m api.Mode, want int) {
	t.Helper()
	ok := m.Distance == want
	switch {
	case want == 0:
		ok = ok && m.From+m.To+m.X+m.Y+m.Z == ""
	case want > 0:
		ok = ok && m.X+m.Y+m.Z == "" && len(m.To)-len(m.From) == want && isPair(x, m.From, m.To)
	default:
		ok = ok && m.To == "" && m.Y != ""
		for n := 0; n < 4; n++ {
			ok = ok && isPair(x, m.From, m.From+m.X+strings.Repeat(m.Y, n)+m.Z)
		}
	}
	if !ok {
		t.Errorf("want the distance %d: %+v", want, m)
	}
}

// P6: the words that show a distance: of 1, of several bytes, of bytes within one character, and of none that is greatest.
func TestWordsThatShowDistances(t *testing.T) {
	for s, want := range map[string]int{
		`r . ()`:                            0,
		`r . abc`:                           0,
		`r . a; r . b`:                      0,
		`r . a*`:                            1,
		`r . ab; r . abc; r . b`:            1,
		`r . a; r . aa; r . aaa`:            1,
		`r . a; r . abc`:                    2,
		`r . a|ab|abcd|b|bc`:                2,
		`r . ab|abcde; r . xy|xyz`:          3,
		`r . xy|xyz; r . a?b|abcde`:         3,
		`r . (abc)+`:                        3,
		`r . a; r . ab{4}{4}b{4}c`:          21,
		`r . a{4}{4}; r . a`:                15,
		`r . \u{80}+`:                       2,
		`r . \u{20ac}+`:                     3,
		`r . .+`:                            4,
		`r . a; r . a[\u{800}-\u{10ffff}]`:  4,
		`r . a; r . a.b`:                    5,
		`r . \xe9; r . \xe9\xe9|a`:          2,
		`r . a; r . a..`:                    8,
		`r . a; r . a*b`:                    -1,
		`r . a; r . b; r . a[^b]*b`:         -1,
		`r . a|a(bc)*d`:                     -1,
		`r . a; r . a\u{416}*b`:             -1,
		`r . a|abb*(cdd*e)*f`:               -1,
		`r . x; r . xy; r . xy(zz|z{3})*w`:  -1,
		`r . a|ae; r . a(bff|e)c*d`:         -1,
		`r . x; r . x((a|x)(a|x))*b; r . a`: -1,
		`r . z*a; r . z*ab*c`:               -1,
		`r . /\*([^*]|\*+[^*/])*\*+/|[/*]`:  -1,
		`r . "([^"\n]|"")*"; r . [^"]`:      -1,
		`r . "([^"]|\\")*"; r . ["\\]`:      -1,
	} {
		x, r, e := Generate(lines("mode m; "+s), holding(64))
		if e != api.OK || len(r.Modes) != 1 {
			t.Fatalf("%s: %d", s, e)
		}
		shown(t, x, r.Modes[0], want)
		if t.Failed() {
			t.Fatal(s)
		}
	}
}

// P6: each mode has its own words.
func TestWordsOfEachMode(t *testing.T) {
	modes := []string{`r . a; s . abc`, `r . b`, `r . a; s . a*b`}
	distances := []int{2, 0, -1}
	for _, order := range [][]int{{0, 1, 2}, {2, 1, 0}, {1, 2, 0}, {2, 0, 1}} {
		text := ""
		for i, k := range order {
			text += "mode m" + string(rune('a'+i)) + "; " + modes[k] + "; "
		}
		_, r, e := Generate(lines(strings.TrimSuffix(text, "; ")), wide)
		if e != api.OK || len(r.Modes) != 3 {
			t.Fatalf("%q: %d", text, e)
		}
		for i, k := range order {
			shown(t, made(t, "mode m; "+modes[k], wide), r.Modes[i], distances[k])
		}
	}
}
