package expr

import (
	"fmt"
	"strings"
	"testing"
)

// defs: what the names in the tests' braces stand for.
var defs = []Def{{"w", 2}, {"mode", 1}, {"big", 25}, {"zero", 0}, {"a1b2c3", 3}}

// is: the text is an expression of so many characters.
func is(t *testing.T, text string, want int) {
	t.Helper()
	n, ok := Chars(text, defs)
	if !ok || n != want {
		t.Errorf("%q: %d %v, want %d characters", text, n, ok, want)
	}
}

// isNone: the text is no expression.
func isNone(t *testing.T, text string) {
	t.Helper()
	n, ok := Chars(text, defs)
	if ok || n != 0 {
		t.Errorf("%q: %d %v, want none", text, n, ok)
	}
}

func TestEitherAndRow(t *testing.T) {
	is(t, "a", 1)
	is(t, "ab", 2)
	is(t, "ab|c", 3)
	is(t, "a|b|c", 3)
	is(t, " ", 1)
	is(t, " a ", 3)
	is(t, "a|()", 1)
	for _, text := range []string{"", "|", "a|", "|a", "a||b", "(a|)", "(|a)", "a)", "(a", ")", "(", "a]", "a}", "]", "}"} {
		isNone(t, text)
	}
}

func TestCharacters(t *testing.T) {
	for c := 0; c < 256; c++ {
		text := string([]byte{byte(c)})
		if c >= 32 && c <= 126 && !strings.Contains(`\|()[]{}*+?`, text) {
			is(t, text, 1)
			is(t, "x"+text+"x", 3)
		} else {
			isNone(t, text)
		}
	}
	for c := 0; c < 256; c++ {
		if c < 32 || c > 126 {
			isNone(t, "x"+string([]byte{byte(c)})+"x")
		}
	}
	isNone(t, "é")
	isNone(t, "a\x00")
}

func TestEscapesOfOneSign(t *testing.T) {
	for c := 0; c < 256; c++ {
		text := `\` + string([]byte{byte(c)})
		letter := c >= 'a' && c <= 'z' || c >= 'A' && c <= 'Z'
		digit := c >= '0' && c <= '9'
		if c == 'n' || c == 't' || c >= 33 && c <= 126 && !letter && !digit {
			is(t, text, 1)
			is(t, "["+text+"]", 1)
			is(t, text+"a", 2)
		} else {
			isNone(t, text)
			isNone(t, "["+text+"]")
			isNone(t, text+"a")
		}
	}
	isNone(t, `\`)
	isNone(t, `a\`)
	isNone(t, `[\`)
}

func TestEscapesByNumber(t *testing.T) {
	right := []string{
		`\x00`, `\x0a`, `\x41`, `\x7f`, `\xaf`, `\xff`, `\x99`,
		`\u{0}`, `\u{a}`, `\u{41}`, `\u{400}`, `\u{ffff}`, `\u{10000}`, `\u{000041}`, `\u{00d7ff}`,
		`\u{d7ff}`, `\u{e000}`, `\u{10ffff}`,
	}
	for _, text := range right {
		is(t, text, 1)
		is(t, "["+text+"]", 1)
		is(t, "[^"+text+"-"+text+"]", 1)
	}
	wrong := []string{
		`\x`, `\x4`, `\xg0`, `\x0g`, `\xAF`, `\xaF`, `\x 1`, `\X41`, `\x{41}`,
		`\u`, `\u41`, `\u0041`, `\u{`, `\u{}`, `\u{4`, `\u{41`, `\u{4g}`, `\u{A}`, `\u{ 41}`, `\u{41 }`, `\u{-1}`,
		`\u{d800}`, `\u{dbff}`, `\u{dfff}`, `\u{00d800}`, `\u{110000}`, `\u{ffffff}`, `\u{0000041}`, `\u{0000000}`, `\U{41}`,
	}
	for _, text := range wrong {
		isNone(t, text)
		isNone(t, "["+text+"]")
		isNone(t, "[a-"+text+"]")
		isNone(t, "a"+text)
	}
	is(t, `\x411`, 2)
	is(t, `\u{41}1`, 2)
	is(t, `\u{41}{2}`, 2)
}

func TestClasses(t *testing.T) {
	right := []string{
		"[a]", "[abc]", "[^a]", "[a-c]", "[a-a]", "[a-cx-z0]", "[^a-c ]", "[ ]", "[ -~]", "[.]", "[*+?|(){}.]", "[{w}]", "[()]",
		`[a\-b]`, `[\]]`, `[\[]`, `[\^]`, `[\-]`, `[\\]`, `[^\^]`, `[\--\]]`, `[+-\-]`, `[\x00-\u{10ffff}]`, `[^\x00-\u{10ffff}]`,
		`[\u{d7f0}-\u{e010}]`, `[\u{d7ff}-\u{e000}]`, `[\n\t]`, `[\t-\n]`, `[A-z]`, `[Z-a]`, `[a-\x61]`, `[\x61-b]`,
	}
	for _, text := range right {
		is(t, text, 1)
		is(t, "(i:"+text+")", 1)
	}
	wrong := []string{
		"[", "[]", "[^]", "[^", "[a", "[a-", "[a-]", "[-a]", "[-]", "[a-b-c]", "[a--]", "[--a]", "[a^]", "[^^]", "[^^a]", "[a-^]", "[[]", "[a[]", "[a-[]", "[]]", "[]a]",
		"[c-a]", "[b-a]", `[a-\x60]`, `[\u{400}-\u{3ff}]`, `[\n-\t]`, "[a-Z]", `[\u{10ffff}-\x00]`,
		"[\t]", "[\n]", "[\x7f]", "[\x00]", "[é]", "[\xff]", "[a-\x7f]", "[a-\xff]", `[a\]`, "[a]]",
	}
	for _, text := range wrong {
		isNone(t, text)
		isNone(t, "(i:"+text+")")
	}
	for c := 0; c < 256; c++ {
		text := "[" + string([]byte{byte(c)}) + "]"
		if c >= 32 && c <= 126 && !strings.Contains(`[]^-\`, string(rune(c))) {
			is(t, text, 1)
		} else {
			isNone(t, text)
		}
	}
}

func TestRepetitions(t *testing.T) {
	is(t, "a*", 1)
	is(t, "a+", 1)
	is(t, "a?", 1)
	is(t, "a**", 1)
	is(t, "a+?*", 1)
	is(t, "(ab)*", 2)
	for n := 0; n <= 9; n++ {
		one := fmt.Sprintf("(ab){%d}", n)
		open := fmt.Sprintf("(ab){%d,}", n)
		if n > 4 {
			isNone(t, one)
			isNone(t, open)
			continue
		}
		is(t, one, 2*n)
		is(t, open, 2*max(n, 1))
	}
	for n := 0; n <= 9; n++ {
		for m := 0; m <= 9; m++ {
			text := fmt.Sprintf("[ab]{%d,%d}", n, m)
			if n <= m && m <= 4 {
				is(t, text, m)
			} else {
				isNone(t, text)
			}
		}
	}
	is(t, "a{2}{3}", 6)
	is(t, "a{2}*{3}", 6)
	is(t, "a{3,}{2,}", 6)
	is(t, "a*{0,}", 1)
	is(t, "a{0}{4}", 0)
	is(t, "(){4}", 0)
	is(t, ".{4}", 4)
	is(t, `\.{4}`, 4)
	wrong := []string{
		"*", "+a", "?", "{2}", "{2}a", "(*a)", "(i:*a)", "({2})", "a|*", "a|{2}", "a{", "a{1", "a{1,", "a{1,2", "a{}", "a{,}", "a{,2}", "a{10}", "a{1,10}", "a{01}", "a{1,01}",
		"a{1;2}", "a{1 }", "a{ 1}", "a{1, 2}", "a{1,2,3}", "a{-1}", "a{1,2}}", "a{1a}", "a{1,a}", "a{a,1}",
	}
	for _, text := range wrong {
		isNone(t, text)
	}
}

func TestNamesInBraces(t *testing.T) {
	is(t, "{w}", 2)
	is(t, "{mode}", 1)
	is(t, "x{w}", 3)
	is(t, "{w}{w}", 4)
	is(t, "{w}{3}", 6)
	is(t, "{w}*", 2)
	is(t, "{zero}{4}{zero}", 0)
	is(t, "(i:{w}|{a1b2c3})", 5)
	is(t, "{w}{2}{w}{0}{w}", 6)
	for _, text := range []string{"{", "{}", "{w", "w}", "{x}", "{ww}", "{ w}", "{w }", "{W}", "{a1b2c}", "{a1b2c34}", "x{x}", "{{w}}", "{w,}", "{w,2}", "{(w)}", `{\w}`} {
		isNone(t, text)
	}
	if _, ok := Chars("{w}", nil); ok {
		t.Error("a name that no line gave is taken")
	}
}

func TestBrackets(t *testing.T) {
	is(t, "()", 0)
	is(t, "a()b", 2)
	is(t, "()()", 0)
	is(t, "()*", 0)
	is(t, "( )", 1)
	is(t, "(a)(b)", 2)
	is(t, "(i)", 1)
	is(t, "(i|:)", 2)
	is(t, "(ia:)", 3)
	is(t, "(I:a)", 3)
	is(t, "(i:a)", 1)
	is(t, "(i:i:)", 2)
	is(t, "(i:())", 0)
	is(t, "(i:a(b|(c)))", 3)
	is(t, "(i:(i:a))", 1)
	for _, text := range []string{"(i:)", "(i:|a)", "(i:a", "(i:", "(i", "(i:a))", "(()", "())", "(a)b)"} {
		isNone(t, text)
	}
}

func TestHowDeepBracketsStand(t *testing.T) {
	for depth := 1; depth <= 20; depth++ {
		for _, open := range []string{"(", "(i:"} {
			full := strings.Repeat(open, depth) + "a" + strings.Repeat(")", depth)
			empty := strings.Repeat(open, depth-1) + "()" + strings.Repeat(")", depth-1)
			if depth <= 8 {
				is(t, full, 1)
				is(t, full+full+"|"+full, 3)
				is(t, empty, 0)
			} else {
				isNone(t, full)
				isNone(t, empty)
			}
		}
	}
	is(t, "(i:((i:(((((a)))))(b))))", 2)
	isNone(t, "(a(b(c(d(e(f(g(h(i)))))))))")
	is(t, `((((((((\([(]))))))))`, 2)
}

func TestCountsAreBounded(t *testing.T) {
	is(t, strings.Repeat("a", 24), 24)
	is(t, strings.Repeat("a", 25), 25)
	is(t, strings.Repeat("a", 300), 25)
	is(t, "a{4}{4}a{4}a{4}", 24)
	is(t, "a{4}{4}a{4}a{4}a", 25)
	is(t, "(abc){2}{4}", 24)
	is(t, "(abc){2,}{4,}", 24)
	is(t, "({w}|{mode}){2,4}{2}", 24)
	is(t, "a"+strings.Repeat("{4}", 120), 25)
	is(t, "(a"+strings.Repeat("{4}", 120)+"){0}", 0)
	is(t, "(a"+strings.Repeat("{4}", 120)+"){0}b", 1)
	is(t, "(a"+strings.Repeat("{4}", 120)+"){0}{4}b", 1)
	is(t, "()"+strings.Repeat("{4}", 120), 0)
	is(t, "{big}{big}{4}", 25)
	is(t, "{big}{0}{w}", 2)
	is(t, "{big}|{big}", 25)
}
