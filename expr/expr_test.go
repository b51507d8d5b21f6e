package expr

import (
	"fmt"
	"strings"
	"testing"

	"lexer/chars"
)

// defs: what the names in the tests' braces stand for.
var defs = []Def{{"w", of("ab")}, {"mode", of("m")}, {"big", of(strings.Repeat("x", 30))}, {"zero", of("()")}, {"a1b2c3", of("c{3}")}, {"cases", of("(i:a)b")}}

// of: the tree of a text that has no names in braces.
func of(text string) *Tree {
	tree, _ := Read(text, nil)
	return tree
}

// is: the text is an expression of so many characters.
func is(t *testing.T, text string, want int) {
	t.Helper()
	tree, ok := Read(text, defs)
	if !ok || tree.Chars != want {
		t.Errorf("%q: %v %v, want %d characters", text, tree, ok, want)
	}
}

// isNone: the text is no expression.
func isNone(t *testing.T, text string) {
	t.Helper()
	tree, ok := Read(text, defs)
	if ok || tree != nil {
		t.Errorf("%q: %v %v, want none", text, tree, ok)
	}
}

func TestEitherAndRow(t *testing.T) {
	is(t, "a", 1)
	is(t, "ab", 2)
	is(t, "ab|c", 3)
	is(t, "a|b|c", 3)
	is(t, " ", 1)
	is(t, " a ", 3)
	is(t, "a|()", 1)
	for _, text := range []string{"", "|", "a|", "|a", "a||b", "(a|)", "(|a)", "a)", "(a", ")", "(", "a]", "a}", "]", "}"} {
		isNone(t, text)
	}
}

func TestCharacters(t *testing.T) {
	for c := 0; c < 256; c++ {
		text := string([]byte{byte(c)})
		if c >= 32 && c <= 126 && !strings.Contains(`\|()[]{}*+?`, text) {
			is(t, text, 1)
			is(t, "x"+text+"x", 3)
		} else {
			isNone(t, text)
		}
	}
	for c := 0; c < 256; c++ {
		if c < 32 || c > 126 {
			isNone(t, "x"+string([]byte{byte(c)})+"x")
		}
	}
	isNone(t, "é")
	isNone(t, "a\x00")
}

func TestEscapesOfOneSign(t *testing.T) {
	for c := 0; c < 256; c++ {
		text := `\` + string([]byte{byte(c)})
		letter := c >= 'a' && c <= 'z' || c >= 'A' && c <= 'Z'
		digit := c >= '0' && c <= '9'
		if c == 'n' || c == 't' || c >= 33 && c <= 126 && !letter && !digit {
			is(t, text, 1)
			is(t, "["+text+"]", 1)
			is(t, text+"a", 2)
		} else {
			isNone(t, text)
			isNone(t, "["+text+"]")
			isNone(t, text+"a")
		}
	}
	isNone(t, `\`)
	isNone(t, `a\`)
	isNone(t, `[\`)
}

func TestEscapesByNumber(t *testing.T) {
	right := []string{
		`\x00`, `\x0a`, `\x41`, `\x7f`, `\xaf`, `\xff`, `\x99`,
		`\u{0}`, `\u{a}`, `\u{41}`, `\u{400}`, `\u{ffff}`, `\u{10000}`, `\u{000041}`, `\u{00d7ff}`,
		`\u{d7ff}`, `\u{e000}`, `\u{10ffff}`,
	}
	for _, text := range right {
		is(t, text, 1)
		is(t, "["+text+"]", 1)
		is(t, "[^"+text+"-"+text+"]", 1)
	}
	wrong := []string{
		`\x`, `\x4`, `\xg0`, `\x0g`, `\xAF`, `\xaF`, `\x 1`, `\X41`, `\x{41}`,
		`\u`, `\u41`, `\u0041`, `\u{`, `\u{}`, `\u{4`, `\u{41`, `\u{4g}`, `\u{A}`, `\u{ 41}`, `\u{41 }`, `\u{-1}`,
		`\u{d800}`, `\u{dbff}`, `\u{dfff}`, `\u{00d800}`, `\u{110000}`, `\u{ffffff}`, `\u{0000041}`, `\u{0000000}`, `\U{41}`,
	}
	for _, text := range wrong {
		isNone(t, text)
		isNone(t, "["+text+"]")
		isNone(t, "[a-"+text+"]")
		isNone(t, "a"+text)
	}
	is(t, `\x411`, 2)
	is(t, `\u{41}1`, 2)
	is(t, `\u{41}{2}`, 2)
}

func TestClasses(t *testing.T) {
	right := []string{
		"[a]", "[abc]", "[^a]", "[a-c]", "[a-a]", "[a-cx-z0]", "[^a-c ]", "[ ]", "[ -~]", "[.]", "[*+?|(){}.]", "[{w}]", "[()]",
		`[a\-b]`, `[\]]`, `[\[]`, `[\^]`, `[\-]`, `[\\]`, `[^\^]`, `[\--\]]`, `[+-\-]`, `[\x00-\u{10ffff}]`, `[^\x00-\u{10ffff}]`,
		`[\u{d7f0}-\u{e010}]`, `[\u{d7ff}-\u{e000}]`, `[\n\t]`, `[\t-\n]`, `[A-z]`, `[Z-a]`, `[a-\x61]`, `[\x61-b]`,
	}
	for _, text := range right {
		is(t, text, 1)
		is(t, "(i:"+text+")", 1)
	}
	wrong := []string{
		"[", "[]", "[^]", "[^", "[a", "[a-", "[a-]", "[-a]", "[-]", "[a-b-c]", "[a--]", "[--a]", "[a^]", "[^^]", "[^^a]", "[a-^]", "[[]", "[a[]", "[a-[]", "[]]", "[]a]",
		"[c-a]", "[b-a]", `[a-\x60]`, `[\u{400}-\u{3ff}]`, `[\n-\t]`, "[a-Z]", `[\u{10ffff}-\x00]`,
		"[\t]", "[\n]", "[\x7f]", "[\x00]", "[é]", "[\xff]", "[a-\x7f]", "[a-\xff]", `[a\]`, "[a]]",
	}
	for _, text := range wrong {
		isNone(t, text)
		isNone(t, "(i:"+text+")")
	}
	for c := 0; c < 256; c++ {
		text := "[" + string([]byte{byte(c)}) + "]"
		if c >= 32 && c <= 126 && !strings.Contains(`[]^-\`, string(rune(c))) {
			is(t, text, 1)
		} else {
			isNone(t, text)
		}
	}
}

func TestRepetitions(t *testing.T) {
	is(t, "a*", 1)
	is(t, "a+", 1)
	is(t, "a?", 1)
	is(t, "a**", 1)
	is(t, "a+?*", 1)
	is(t, "(ab)*", 2)
	for n := 0; n <= 9; n++ {
		one := fmt.Sprintf("(ab){%d}", n)
		open := fmt.Sprintf("(ab){%d,}", n)
		if n > 4 {
			isNone(t, one)
			isNone(t, open)
			continue
		}
		is(t, one, 2*n)
		is(t, open, 2*max(n, 1))
	}
	for n := 0; n <= 9; n++ {
		for m := 0; m <= 9; m++ {
			text := fmt.Sprintf("[ab]{%d,%d}", n, m)
			if n <= m && m <= 4 {
				is(t, text, m)
			} else {
				isNone(t, text)
			}
		}
	}
	is(t, "a{2}{3}", 6)
	is(t, "a{2}*{3}", 6)
	is(t, "a{3,}{2,}", 6)
	is(t, "a*{0,}", 1)
	is(t, "a{0}{4}", 0)
	is(t, "(){4}", 0)
	is(t, ".{4}", 4)
	is(t, `\.{4}`, 4)
	wrong := []string{
		"*", "+a", "?", "{2}", "{2}a", "(*a)", "(i:*a)", "({2})", "a|*", "a|{2}", "a{", "a{1", "a{1,", "a{1,2", "a{}", "a{,}", "a{,2}", "a{10}", "a{1,10}", "a{01}", "a{1,01}",
		"a{1;2}", "a{1 }", "a{ 1}", "a{1, 2}", "a{1,2,3}", "a{-1}", "a{1,2}}", "a{1a}", "a{1,a}", "a{a,1}",
	}
	for _, text := range wrong {
		isNone(t, text)
	}
}

func TestNamesInBraces(t *testing.T) {
	is(t, "{w}", 2)
	is(t, "{mode}", 1)
	is(t, "x{w}", 3)
	is(t, "{w}{w}", 4)
	is(t, "{w}{3}", 6)
	is(t, "{w}*", 2)
	is(t, "{zero}{4}{zero}", 0)
	is(t, "(i:{w}|{a1b2c3})", 5)
	is(t, "{w}{2}{w}{0}{w}", 6)
	for _, text := range []string{"{", "{}", "{w", "w}", "{x}", "{ww}", "{ w}", "{w }", "{W}", "{a1b2c}", "{a1b2c34}", "x{x}", "{{w}}", "{w,}", "{w,2}", "{(w)}", `{\w}`} {
		isNone(t, text)
	}
	if _, ok := Read("{w}", nil); ok {
		t.Error("a name that no line gave is taken")
	}
}

func TestBrackets(t *testing.T) {
	is(t, "()", 0)
	is(t, "a()b", 2)
	is(t, "()()", 0)
	is(t, "()*", 0)
	is(t, "( )", 1)
	is(t, "(a)(b)", 2)
	is(t, "(i)", 1)
	is(t, "(i|:)", 2)
	is(t, "(ia:)", 3)
	is(t, "(I:a)", 3)
	is(t, "(i:a)", 1)
	is(t, "(i:i:)", 2)
	is(t, "(i:())", 0)
	is(t, "(i:a(b|(c)))", 3)
	is(t, "(i:(i:a))", 1)
	for _, text := range []string{"(i:)", "(i:|a)", "(i:a", "(i:", "(i", "(i:a))", "(()", "())", "(a)b)"} {
		isNone(t, text)
	}
}

func TestHowDeepBracketsStand(t *testing.T) {
	for depth := 1; depth <= 20; depth++ {
		for _, open := range []string{"(", "(i:"} {
			full := strings.Repeat(open, depth) + "a" + strings.Repeat(")", depth)
			empty := strings.Repeat(open, depth-1) + "()" + strings.Repeat(")", depth-1)
			if depth <= 8 {
				is(t, full, 1)
				is(t, full+full+"|"+full, 3)
				is(t, empty, 0)
			} else {
				isNone(t, full)
				isNone(t, empty)
			}
		}
	}
	is(t, "(i:((i:(((((a)))))(b))))", 2)
	isNone(t, "(a(b(c(d(e(f(g(h(i)))))))))")
	is(t, `((((((((\([(]))))))))`, 2)
}

func TestCountsAreBounded(t *testing.T) {
	is(t, strings.Repeat("a", 24), 24)
	is(t, strings.Repeat("a", 25), 25)
	is(t, strings.Repeat("a", 300), 25)
	is(t, "a{4}{4}a{4}a{4}", 24)
	is(t, "a{4}{4}a{4}a{4}a", 25)
	is(t, "(abc){2}{4}", 24)
	is(t, "(abc){2,}{4,}", 24)
	is(t, "({w}|{mode}){2,4}{2}", 24)
	is(t, "a"+strings.Repeat("{4}", 120), 25)
	is(t, "(a"+strings.Repeat("{4}", 120)+"){0}", 0)
	is(t, "(a"+strings.Repeat("{4}", 120)+"){0}b", 1)
	is(t, "(a"+strings.Repeat("{4}", 120)+"){0}{4}b", 1)
	is(t, "()"+strings.Repeat("{4}", 120), 0)
	is(t, "{big}{big}{4}", 25)
	is(t, "{big}{0}{w}", 2)
	is(t, "{big}|{big}", 25)
}

const signs = "\x00\t\n !-.019:AZBYabyz[]^_`{|}~\x7f\u0080ſéÉЖж\u07ff\u0800\ud7ff\ue000\uffff\U00010000\U0010ffff\u212a"

// sets: those of the characters of a tree, in their order.
func sets(tree *Tree) []chars.Set {
	if tree.Kind == One {
		return []chars.Set{tree.Set}
	}
	var list []chars.Set
	for _, p := range tree.Parts {
		list = append(list, sets(p)...)
	}
	return list
}

// hold: each character of the expression is one of the signs that stand there.
func hold(t *testing.T, text string, want ...string) {
	t.Helper()
	tree, ok := Read(text, defs)
	if !ok {
		t.Errorf("%q is none", text)
		return
	}
	list := sets(tree)
	if len(list) != len(want) {
		t.Errorf("%q: %d characters, want %d", text, len(list), len(want))
		return
	}
	for i, s := range list {
		for _, c := range signs {
			if s.Has(int(c)) != strings.ContainsRune(want[i], c) {
				t.Errorf("%q: character %d: %q: %v", text, i, c, s.Has(int(c)))
			}
		}
	}
}

// all: the signs that hold asks for, but for some.
func all(but string) string {
	s := ""
	for _, c := range signs {
		if !strings.ContainsRune(but, c) {
			s += string(c)
		}
	}
	return s
}

func TestWhatCharactersAre(t *testing.T) {
	hold(t, `a`, "a")
	hold(t, `a|b{2}|-`, "a", "b", "-")
	hold(t, ` ^`, " ", "^")
	hold(t, `.`, all("\n"))
	hold(t, `\n\t\.\x41\x0a\xe9`, "\n", "\t", ".", "A", "\n", "é")
	hold(t, `\u{0}\u{416}\u{d7ff}\u{e000}\u{ffff}\u{10000}\u{10ffff}\u{00007f}`, "\x00", "Ж", "\ud7ff", "\ue000", "\uffff", "\U00010000", "\U0010ffff", "\x7f")
	hold(t, `[ab][^ab][a-b.]`, "ab", all("ab"), "ab.")
	hold(t, `[0-1.][\t-\n]`, "01.", "\t\n")
	hold(t, `[\u{7ff}-\u{e000}]`, "\u07ff\u0800\ud7ff\ue000\u212a")
	hold(t, `[^\x00-\x7f]`, all("\x00\t\n !-.019:AZBYabyz[]^_`{|}~\x7f"))
	hold(t, `[^\x00-\u{10ffff}]`, "")
	hold(t, `[\x00-\u{10ffff}]`, all(""))
	hold(t, `{w}0{mode}`, "a", "b", "0", "")
}

// In (i: .. ), at any depth of brackets within, but not in names in braces, and not behind it.
func TestBothCases(t *testing.T) {
	hold(t, `(i:a)a(i:B)B`, "aA", "a", "bB", "B")
	hold(t, `(i:a(b(\x41)))b`, "aA", "bB", "aA", "b")
	hold(t, `(i:(a)|(i:b)a)`, "aA", "bB", "aA")
	hold(t, `((i:a)b)`, "aA", "b")
	hold(t, `(i:{w}a{w})`, "a", "b", "aA", "a", "b")
	hold(t, `{cases}(a{cases})`, "aA", "b", "a", "aA", "b")
	hold(t, `(i:[a-b][^a][^A-B])`, "abAB", all("aA"), all("abAB"))
	hold(t, `(i:[Z-a]\x5a[y\u{42}])`, "Zz[]^_`aA", "zZ", "yYbB")
	hold(t, `(i:.\n[ -~]\.0{2})`, all("\n"), "\n", all("\x00\t\n\x7f\u0080ſéÉЖж\u07ff\u0800\ud7ff\ue000\uffff\U00010000\U0010ffff\u212a"), ".", "0")
	hold(t, `(i:\xe9\u{416}[\x7f-\u{416}])`, "é", "Ж", "\x7f\u0080ſéÉЖ")
}

// Trees without characters are the empty word, however often it is asked for.
func TestTheEmptyWord(t *testing.T) {
	for _, text := range []string{"()", "()()", "()|()", "(()){4}", "a{0}", "(a*b{4}){0}", "{zero}{4,}", "{big}{0}|()", "()" + strings.Repeat("{4}", 100), "(i:())", "a{0,0}", "()*"} {
		tree, ok := Read(text, defs)
		if !ok || tree.Kind != Empty || tree.Chars != 0 || tree.Parts != nil {
			t.Errorf("%q: %v %v", text, tree, ok)
		}
	}
	for _, text := range []string{"a?", "a*", "()a", "a|()", "a{0,1}"} {
		tree, ok := Read(text, defs)
		if !ok || tree.Kind == Empty {
			t.Errorf("%q: %v %v", text, tree, ok)
		}
	}
}

func TestTimes(t *testing.T) {
	for _, c := range []struct {
		text   string
		want   Times
		copies int
	}{
		{"*", Times{0, 0, true}, 1}, {"+", Times{1, 0, true}, 1}, {"?", Times{0, 1, false}, 1},
		{"{1}", Times{1, 1, false}, 1}, {"{4}", Times{4, 4, false}, 4}, {"{0,}", Times{0, 0, true}, 1}, {"{1,}", Times{1, 0, true}, 1}, {"{3,}", Times{3, 0, true}, 3},
		{"{0,1}", Times{0, 1, false}, 1}, {"{2,4}", Times{2, 4, false}, 4}, {"{0,4}", Times{0, 4, false}, 4},
	} {
		tree, ok := Read("a"+c.text, nil)
		if !ok {
			t.Fatalf("%s is none", c.text)
		}
		for tree.Kind != Again {
			tree = tree.Parts[0]
		}
		if tree.Times != c.want || c.want.Copies() != c.copies || tree.Chars != c.copies {
			t.Errorf("%s: %v, %d copies, %d characters", c.text, tree.Times, tree.Times.Copies(), tree.Chars)
		}
	}
}
