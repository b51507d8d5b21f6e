package spec

import (
	"fmt"
	"strings"
	"testing"

	"lexer/api"
)

// lines: a text of these lines.
func lines(l ...string) string {
	return strings.Join(l, "\n") + "\n"
}

// answers: the text has this error, or none; line is 0 but of ErrLine.
func answers(t *testing.T, text string, want api.Errno, line int) {
	t.Helper()
	s, got, e := Read(text)
	if e != want || got != line || (s.Modes == nil) != (e != api.OK) {
		t.Errorf("%q: %d line %d, %d modes, want %d line %d", text, e, got, len(s.Modes), want, line)
	}
}

func TestTextsWithoutError(t *testing.T) {
	answers(t, lines("mode m", "a . a"), api.OK, 0)
	answers(t, lines("mode m", "a . a", "a . a", "a . b"), api.OK, 0)
	answers(t, lines("mode m", "a . a", "mode n", "b - b", "c < c", "d >m d", "e >n e"), api.OK, 0)
	answers(t, lines("let w ab", "mode m", "let x {w}c", "a . {x}{w}", "let y z"), api.OK, 0)
}

func TestLinesThatAreNone(t *testing.T) {
	none := []string{
		"", " ", "a", "a ", "a .", "a . ", ". a", "a. a", "a  a", "a  . a", " a . a", "a\t. a", "a .\ta", "a, . a",
		"mode", "mode ", "mode  n", " mode n", "mode n ", "mode n o", "mode\tn", "mode N", "mode 1", "mode n-", "mode . a", "mode .", "mode é",
		"let", "let ", "let x", "let x ", "let  x a", "let X a", "let 1 a", "let x. a", "let . a", "let - a", "let < a", "let >m a", "let x |", "let\tx a",
		"A . a", "1 . a", "a_ . a", "aB . a", "é . a", "Mode . a",
		"a ! a", "a , a", "a .. a", "a -- a", "a << a", "a .- a", "a > a", "a >> a", "a >M a", "a >1 a", "a >n> a", "a >n. a", "a <n a", "a .n a", "a n a", "a >mmmmmmm a", "a >n",
		"a . *", "a . (", "a . {x}", "a . \x00", "a . a\r", "a . é", "a . \t",
		"\x00", "\xff", "# a", "-- a",
	}
	for _, line := range none {
		answers(t, lines("mode m", "r . r", line), api.ErrLine, 3)
		answers(t, lines("mode m", line, "r . r"), api.ErrLine, 2)
		answers(t, lines(line, "mode m", "r . r"), api.ErrLine, 1)
	}
}

func TestTheFirstLineThatIsNone(t *testing.T) {
	answers(t, lines("mode m", "?", "r . r", "??", "mode m"), api.ErrLine, 2)
	answers(t, lines("mode m", "r . r", "mode m", "?"), api.ErrLine, 3)
	answers(t, lines("?", "mode m", "mode m"), api.ErrLine, 1)
	answers(t, lines("mode m", "r . r", "r . (", "mode m")+"x", api.ErrLine, 3)
	answers(t, strings.Repeat("\n", 400), api.ErrLine, 1)
}

func TestTheLastLineFeed(t *testing.T) {
	answers(t, "mode m\na . a", api.ErrLine, 2)
	answers(t, "mode m\na . a\n", api.OK, 0)
	answers(t, "mode m\na . a\n\n", api.ErrLine, 3)
	answers(t, "mode m\na . a\n ", api.ErrLine, 3)
	answers(t, "mode m\na . a\nb . b", api.ErrLine, 3)
	answers(t, "mode m", api.ErrLine, 1)
	answers(t, "x", api.ErrLine, 1)
	answers(t, "", api.ErrModes, 0)
}

// All texts that lack the end of a line tell that line.
func TestTextsThatAreCutOff(t *testing.T) {
	text := lines("let w [a-z]{1,2}", "mode m", "x >n {w}(i:a|b)", "mode n", "let v ()", "y < \\x41\\u{42}")
	answers(t, text, api.OK, 0)
	for i := 1; i < len(text); i++ {
		if text[i-1] == '\n' {
			continue
		}
		answers(t, text[:i], api.ErrLine, strings.Count(text[:i], "\n")+1)
	}
}

func TestNames(t *testing.T) {
	for _, name := range []string{"a", "z", "a1", "zz9", "a0b1c2", "mmmmmm", "modes", "lets", "mod", "le", "i", "mode1", "let0"} {
		answers(t, lines("mode "+name, name+" >"+name+" a"), api.OK, 0)
		answers(t, lines("let "+name+" a", "mode "+name, "r . {"+name+"}"), api.OK, 0)
	}
	for _, name := range []string{"", "A", "1", "1a", "aA", "a_", "a-b", "a.b", "mmmmmmm", "a123456", "é", "aé", "a\x00", "`", "{", "a/", "a:", "a`"} {
		answers(t, lines("mode "+name, "r . r"), api.ErrLine, 1)
		answers(t, lines("let "+name+" a", "mode m", "r . r"), api.ErrLine, 1)
		answers(t, lines("mode m", name+" . r"), api.ErrLine, 2)
		answers(t, lines("mode m", "r >"+name+" r"), api.ErrLine, 2)
	}
}

// The words mode and let are names of modes and in braces, but of no rule.
func TestTheWordsModeAndLet(t *testing.T) {
	answers(t, lines("let mode a", "let let b", "mode mode", "a >let {mode}", "mode let", "b . {let}"), api.OK, 0)
	for _, act := range []string{".", "-", "<", ">m"} {
		answers(t, lines("mode m", "mode "+act+" a"), api.ErrLine, 2)
		answers(t, lines("mode m", "let "+act+" a"), api.ErrLine, 2)
	}
}

func TestModes(t *testing.T) {
	three := lines("mode a", "r . r", "mode b", "r . r", "mode c", "r . r")
	answers(t, three, api.OK, 0)
	answers(t, three+lines("mode d", "r . r"), api.ErrLine, 7)
	answers(t, lines("mode a", "mode b", "mode c", "mode d"), api.ErrLine, 4)
	answers(t, lines("mode a", "r . r", "mode b", "r . r", "mode a", "r . r"), api.ErrLine, 5)
	answers(t, lines("mode a", "mode a"), api.ErrLine, 2)
}

func TestLets(t *testing.T) {
	four := lines("let a a", "let b b", "let c c", "let d d")
	answers(t, four+lines("mode m", "r . {a}{b}{c}{d}"), api.OK, 0)
	answers(t, four+lines("let e e", "mode m", "r . r"), api.ErrLine, 5)
	answers(t, four+lines("mode m", "r . r", "let e e"), api.ErrLine, 7)
	answers(t, lines("let a a", "let a b", "mode m", "r . r"), api.ErrLine, 2)
	answers(t, lines("let a a", "mode m", "r . r", "let a a"), api.ErrLine, 4)
	answers(t, lines("mode m", "r . {a}", "let a a"), api.ErrLine, 2)
	answers(t, lines("let a {a}", "mode m", "r . r"), api.ErrLine, 1)
	answers(t, lines("let a {b}", "let b b", "mode m", "r . r"), api.ErrLine, 1)
	answers(t, lines("mode m", "let a a", "r . {a}", "mode n", "s . {a}", "let b b"), api.OK, 0)
	answers(t, lines("let m  a", "mode m", "m . {m}"), api.OK, 0)
}

func TestRules(t *testing.T) {
	eight := strings.Repeat("r . r\n", 8)
	answers(t, "mode m\n"+eight, api.OK, 0)
	answers(t, "mode m\n"+eight+"r . r\n", api.ErrLine, 10)
	answers(t, "mode m\nr . r\nmode n\n"+eight, api.ErrLine, 11)
	answers(t, "mode m\nr . r\nmode n\n"+strings.Repeat("r . r\n", 7), api.OK, 0)
	answers(t, lines("r . r"), api.ErrLine, 1)
	answers(t, lines("let a a", "r . r", "mode m"), api.ErrLine, 2)
	answers(t, lines("mode m", "r .  ", "r -   r "), api.OK, 0)
}

func TestErrModes(t *testing.T) {
	answers(t, "", api.ErrModes, 0)
	answers(t, lines("let a a"), api.ErrModes, 0)
	answers(t, lines("mode m"), api.ErrModes, 0)
	answers(t, lines("mode m", "let a a"), api.ErrModes, 0)
	answers(t, lines("mode m", "mode n", "r . r"), api.ErrModes, 0)
	answers(t, lines("mode m", "r . r", "mode n"), api.ErrModes, 0)
	answers(t, lines("mode m", "r . r", "mode n", "mode o", "r . r"), api.ErrModes, 0)
}

func TestModesThatArePushed(t *testing.T) {
	answers(t, lines("mode m", "a >m a"), api.OK, 0)
	answers(t, lines("mode m", "a >n a", "mode n", "b . b"), api.OK, 0)
	answers(t, lines("mode n", "b . b", "mode m", "a >n a"), api.OK, 0)
	answers(t, lines("mode m", "a >o a", "mode n", "b . b", "mode o", "c >m c"), api.OK, 0)
	answers(t, lines("mode m", "a >n a"), api.ErrModes, 0)
	answers(t, lines("mode m", "a >a a"), api.ErrModes, 0)
	answers(t, lines("mode m", "a >mm a"), api.ErrModes, 0)
	answers(t, lines("mode mm", "a >m a"), api.ErrModes, 0)
	answers(t, lines("mode m", "a >n a", "mode n"), api.ErrModes, 0)
	answers(t, lines("let n a", "mode m", "a >n {n}"), api.ErrModes, 0)
	answers(t, lines("mode m", "a >n a", "b >o b", "mode n", "b . b"), api.ErrModes, 0)
	answers(t, lines("mode m", "a >o a", "b >n b", "mode n", "b . b"), api.ErrModes, 0)
}

func TestErrLeaves(t *testing.T) {
	a := func(n int) string { return strings.Repeat("a", n) }
	answers(t, lines("mode m", "r . "+a(24)), api.OK, 0)
	answers(t, lines("mode m", "r . "+a(25)), api.ErrLeaves, 0)
	answers(t, lines("mode m", "r . "+a(12), "r - "+a(12)), api.OK, 0)
	answers(t, lines("mode m", "r . "+a(12), "r - "+a(13)), api.ErrLeaves, 0)
	answers(t, lines("mode m", "r . "+a(24), "r . ()"), api.OK, 0)
	answers(t, lines("mode m", "r . "+a(24), "mode n", "r . "+a(24), "mode o", "r . "+a(24)), api.OK, 0)
	answers(t, lines("mode m", "r . a", "mode n", "r . a", "mode o", "r . "+a(25)), api.ErrLeaves, 0)
	answers(t, lines("mode m", "r . "+a(25), "mode n", "r . a"), api.ErrLeaves, 0)
	answers(t, lines("mode m", "r . a{4}{4}a{4}a{4}a"), api.ErrLeaves, 0)
	answers(t, lines("let w aaaaaa", "mode m", "r . {w}{4}"), api.OK, 0)
	answers(t, lines("let w aaaaaa", "mode m", "r . {w}{4}a"), api.ErrLeaves, 0)
	answers(t, lines("let v aaa", "let w {v}{2,}", "mode m", "r . {w}{3}({v})?{v}"), api.OK, 0)
	answers(t, lines("let v aaa", "let w {v}{2,}", "mode m", "r . {w}{3}({v})?{v}", "s . b"), api.ErrLeaves, 0)
}

// What a let line has counts only where its name stands.
func TestLetsOfManyCharacters(t *testing.T) {
	big := "let w " + strings.Repeat("a", 60) + "{4}{4}{4}{4}"
	answers(t, lines(big, "mode m", "r . a"), api.OK, 0)
	answers(t, lines(big, "mode m", "r . {w}{0}a"), api.OK, 0)
	answers(t, lines(big, "let v {w}{w}{0}{w}{0}", "mode m", "r . {v}"), api.ErrLeaves, 0)
	answers(t, lines(big, "let v ({w}{w}){0}", "mode m", "r . {v}{4}"), api.OK, 0)
	answers(t, lines(big, "mode m", "r . {w}?"), api.ErrLeaves, 0)
}

// Brackets are counted as they are written: those of a let line do not stand within those around its name.
func TestBracketsOfNames(t *testing.T) {
	deep := "let w ((((((((a))))))))"
	answers(t, lines(deep, "mode m", "r . {w}"), api.OK, 0)
	answers(t, lines(deep, "mode m", "r . (((((((({w}))))))))"), api.OK, 0)
	answers(t, lines(deep, "mode m", "r . ((((((((({w})))))))))"), api.ErrLine, 3)
	answers(t, lines("let w (((((((((a)))))))))", "mode m", "r . a"), api.ErrLine, 1)
}

func TestLongTexts(t *testing.T) {
	head := "let w "
	tail := "\nmode m\nr . a\n"
	fill := strings.Repeat("a", 400-len(head)-len(tail))
	answers(t, head+fill+tail, api.OK, 0)
	answers(t, head+fill+"a"+tail, api.ErrText, 0)
	answers(t, strings.Repeat("x", 400), api.ErrLine, 1)
	answers(t, strings.Repeat("x", 401), api.ErrText, 0)
	answers(t, strings.Repeat("\n", 1<<20), api.ErrText, 0)
}

func TestTheOrderOfErrors(t *testing.T) {
	leaves := "r . " + strings.Repeat("a", 25)
	answers(t, lines("?", leaves)+strings.Repeat("?", 400), api.ErrText, 0)
	answers(t, lines("mode m", leaves, "a >n a", "mode n", "?"), api.ErrLine, 5)
	answers(t, lines("mode m", leaves, "a >o a", "mode n"), api.ErrModes, 0)
	answers(t, lines("mode m", leaves, "a >o a", "mode n", "b . b"), api.ErrModes, 0)
	answers(t, lines("mode m", leaves, "a >n a", "mode n", "b . b"), api.ErrLeaves, 0)
}

// Each byte at each place of a text: the call ends, and what it tells fits together.
func TestAnyByteAnywhere(t *testing.T) {
	text := lines("let w a{2}", "mode m", "x >m {w}(i:[^a-b])\\x41")
	for i := 0; i < len(text); i++ {
		for c := 0; c < 256; c++ {
			_, line, e := Read(text[:i] + string([]byte{byte(c)}) + text[i+1:])
			if (e == api.ErrLine) != (line > 0) || line > 5 {
				t.Fatalf("byte %d at %d: %d line %d", c, i, e, line)
			}
			if (c < 32 || c > 126) && c != '\n' && e != api.ErrLine {
				t.Fatalf("byte %d at %d: %d", c, i, e)
			}
		}
	}
}

// What is read: the modes and the rules of each, in their order.
func TestWhatIsRead(t *testing.T) {
	s, _, e := Read(lines("let w ab", "mode m", "a >o {w}{w}", "b - c", "mode n", "let v {w}{3}", "c < {v}", "mode o", "d . ()", "e . .*", "f . a+b*"))
	if e != api.OK || len(s.Modes) != 3 {
		t.Fatalf("%d, %v", e, s)
	}
	want := []struct {
		name  string
		chars []int
	}{{"m", []int{4, 1}}, {"n", []int{6}}, {"o", []int{0, 1, 2}}}
	for i, w := range want {
		m := s.Modes[i]
		if m.Name != w.name || len(m.Rules) != len(w.chars) {
			t.Fatalf("mode %d: %v", i, m)
		}
		for k, n := range w.chars {
			if m.Rules[k].Chars != n {
				t.Errorf("mode %s, rule %d: %d characters", m.Name, k, m.Rules[k].Chars)
			}
		}
	}
	if got := fmt.Sprint(s.Acts, s.Pushed); got != "[2 1 3 0 0 0] [2 0 0 0 0 0]" {
		t.Error(got)
	}
}

// What rules do: modes may be pushed that stand above, below, or around.
func TestActs(t *testing.T) {
	s, _, e := Read(lines("mode a", "r >a a", "r >b b", "r >c c", "r < d", "mode b", "r >a a", "r - b", "mode c", "r >c c", "r . d"))
	if got := fmt.Sprint(e, s.Acts, s.Pushed); got != "0 [2 2 2 3 2 1 2 0] [0 1 2 0 0 0 2 0]" {
		t.Error(got)
	}
}
