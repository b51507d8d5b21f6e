package expr

import (
	"regexp"
	"strconv"
	"strings"
	"testing"
	"unicode/utf8"
)

// grammar follows P5 word for word: of each part it tells all places where it may end, with the characters it has then; it decides nothing early, as the program does.
type grammar struct {
	text  string
	names map[string]int
}

type ends map[int]int

func (g grammar) at(i int) byte {
	if i < len(g.text) {
		return g.text[i]
	}
	return 0
}

func (g grammar) expr(at, depth int) ends {
	out := ends{}
	for e, n := range g.row(at, depth) {
		out[e] = n
		if g.at(e) == '|' {
			for f, m := range g.expr(e+1, depth) {
				out[f] = n + m
			}
		}
	}
	return out
}

func (g grammar) row(at, depth int) ends {
	out := ends{}
	for e, n := range g.thing(at, depth) {
		out[e] = n
		for f, m := range g.row(e, depth) {
			out[f] = n + m
		}
	}
	return out
}

var repeat = regexp.MustCompile(`^(?:[*+?]|\{([0-4])\}|\{([0-4]),\}|\{([0-4]),([0-4])\})`)

func (g grammar) thing(at, depth int) ends {
	out := ends{}
	for e, n := range g.atom(at, depth) {
		out[e] = n
		for w := repeat.FindStringSubmatch(g.text[e:]); w != nil && w[3] <= w[4]; w = repeat.FindStringSubmatch(g.text[e:]) {
			// Digits are single: one of n, n or more, and m is there, or none of them (*, + and ?).
			if most := w[1] + w[4]; most != "" {
				n *= int(most[0] - '0')
			} else if w[2] != "" {
				n *= max(1, int(w[2][0]-'0'))
			}
			n = min(n, 1000000)
			e += len(w[0])
			out[e] = n
		}
	}
	return out
}

func (g grammar) atom(at, depth int) ends {
	out := ends{}
	rest := g.text[at:]
	if rest == "" {
		return out
	}
	if c := rest[0]; c == '.' || c >= 32 && c <= 126 && !strings.ContainsRune(`\|()[]{}*+?.`, rune(c)) {
		out[at+1] = 1
	}
	for e := range g.escape(at) {
		out[e] = 1
	}
	for e := range g.class(at) {
		out[e] = 1
	}
	for name, n := range g.names {
		if strings.HasPrefix(rest, "{"+name+"}") {
			out[at+len(name)+2] = n
		}
	}
	inner := -1
	switch {
	case depth == 8:
	case strings.HasPrefix(rest, "()"):
		out[at+2] = 0
	case strings.HasPrefix(rest, "(i:"):
		inner = at + 3
	case strings.HasPrefix(rest, "("):
		inner = at + 1
	}
	if inner >= 0 {
		for e, n := range g.expr(inner, depth+1) {
			if g.at(e) == ')' {
				out[e+1] = n
			}
		}
	}
	return out
}

var escaped = regexp.MustCompile("^\\\\(?:[nt]|x([0-9a-f]{2})|u\\{([0-9a-f]{1,6})\\}|[!-/:-@[-`{-~])")

// escape: where it ends, and the character.
func (g grammar) escape(at int) ends {
	w := escaped.FindStringSubmatch(g.text[at:])
	if w == nil {
		return nil
	}
	v := int(w[0][1])
	switch {
	case w[1]+w[2] != "":
		n, _ := strconv.ParseInt(w[1]+w[2], 16, 64)
		if !utf8.ValidRune(rune(n)) {
			return nil
		}
		v = int(n)
	case v == 'n':
		v = 10
	case v == 't':
		v = 9
	}
	return ends{at + len(w[0]): v}
}

// sign: one end of a member, as escape.
func (g grammar) sign(at int) ends {
	c := g.at(at)
	if c >= 32 && c <= 126 && !strings.ContainsRune(`[]^-\`, rune(c)) {
		return ends{at + 1: int(c)}
	}
	if c == '\\' {
		return g.escape(at)
	}
	return nil
}

func (g grammar) class(at int) ends {
	out := ends{}
	if g.at(at) != '[' {
		return out
	}
	for e := range g.members(at + 1) {
		out[e] = 1
	}
	if g.at(at+1) == '^' {
		for e := range g.members(at + 2) {
			out[e] = 1
		}
	}
	return out
}

// members: one or more, and the bracket behind them.
func (g grammar) members(at int) ends {
	out := ends{}
	behind := func(e int) {
		if g.at(e) == ']' {
			out[e+1] = 1
		}
		for f := range g.members(e) {
			out[f] = 1
		}
	}
	for e, first := range g.sign(at) {
		behind(e)
		if g.at(e) == '-' {
			for f, last := range g.sign(e + 1) {
				if first <= last {
					behind(f)
				}
			}
		}
	}
	return out
}

// same: the program and the grammar say the same of the text.
func same(t *testing.T, g grammar, list []Def, text string) {
	t.Helper()
	g.text = text
	want, fine := g.expr(0, 0)[len(text)]
	want = min(want, 25)
	tree, ok := Read(text, list)
	if ok != fine || ok && tree.Chars != want {
		t.Fatalf("%q: %v %v, by the grammar %d %v", text, tree, ok, want, fine)
	}
}

// each: every text of the letters, up to the length.
func each(letters string, length int, do func(string)) {
	var grow func(string)
	grow = func(s string) {
		do(s)
		if len(s) == length {
			return
		}
		for i := 0; i < len(letters); i++ {
			grow(s + letters[i:i+1])
		}
	}
	grow("")
}

func theGrammar() (grammar, []Def) {
	list := []Def{{"a", of("ab")}, {"i", of("()")}}
	return grammar{names: map[string]int{"a": 2, "i": 0}}, list
}

func TestShortTextsAgainstTheGrammar(t *testing.T) {
	g, list := theGrammar()
	do := func(s string) { same(t, g, list, s) }
	each("ai:()|*{}2", 5, do)
	each("a{}024,", 6, do)
	each("[]^-\\ab", 6, do)
	each("\\xu{}4dgn", 5, do)
	each("(a)|?\x00", 6, do)
}

func TestLongTextsAgainstTheGrammar(t *testing.T) {
	g, list := theGrammar()
	parts := []string{
		"a", "b", "i", ":", "(", ")", "(", ")", "(i:", "()", "|", "*", "+", "?", "{2}", "{0}", "{1,3}", "{3,1}", "{4,}", "{a}", "{i}", "{b}", ".", " ",
		"[a-z]", "[^x]", "[z-a]", "[", "]", "^", "-", `\n`, `\x41`, `\u{d800}`, `\u{e000}`, `\(`, `\`, ",", "{", "}", "1",
	}
	// The words that come up are the same at every run.
	seed := uint32(1)
	next := func(n int) int {
		seed = seed*1664525 + 1013904223
		return int(seed>>16) % n
	}
	for i := 0; i < 60000; i++ {
		s := ""
		for k := next(14); k >= 0; k-- {
			// The first parts fit in more often.
			s += parts[next(1+next(len(parts)))]
		}
		same(t, g, list, s)
	}
}
