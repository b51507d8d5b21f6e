package places

import (
	"regexp"
	"testing"

	"lexer/expr"
)

// laid: the net of rules that are all written well.
func laid(t *testing.T, texts ...string) *Net {
	t.Helper()
	var trees []*expr.Tree
	for _, text := range texts {
		tree, ok := expr.Read(text, nil)
		if !ok {
			t.Fatalf("%q is none", text)
		}
		trees = append(trees, tree)
	}
	return Lay(trees)
}

// ends walks the net, and tells the places behind a word.
func (n *Net) ends(word string) int {
	now := 0
	next := n.First
	for _, c := range word {
		now = 0
		for p, s := range n.Sets {
			if next>>p&1 == 1 && s.Has(int(c)) {
				now |= 1 << p
			}
		}
		next = 0
		for p := range n.Sets {
			if now>>p&1 == 1 {
				next |= n.Follow[p]
			}
		}
	}
	return now
}

// words: all of the letters, up to the length.
func words(letters string, length int) []string {
	list := []string{""}
	for i := 0; i < len(list); i++ {
		if len([]rune(list[i])) < length {
			for _, c := range letters {
				list = append(list, list[i]+string(c))
			}
		}
	}
	return list
}

// What an expression denotes is what Go's own expressions denote, which are written alike.
func TestWhatExpressionsDenote(t *testing.T) {
	for _, c := range []struct{ text, other, letters string }{
		{`a`, ``, "abA"}, {`ab|c`, ``, "abc"}, {`a*`, ``, "ab"}, {`a+b`, ``, "ab"}, {`a?b?`, ``, "ab"}, {`()`, ``, "a"}, {`a()b`, ``, "ab"},
		{`(a|b)*a(a|b)`, ``, "ab"}, {`(ab)*(abc)?`, ``, "abc"}, {`(a|())b*`, ``, "ab"}, {`((a*)(b*))*`, ``, "ab"}, {`(a?b)+`, ``, "ab"}, {`(a+|b)?c`, ``, "abc"},
		{`a{2}`, ``, "ab"}, {`a{0}b`, `b`, "ab"}, {`a{3,}`, ``, "ab"}, {`a{0,}b`, ``, "ab"}, {`a{1,}b`, ``, "ab"}, {`a{1,3}b`, ``, "ab"}, {`a{0,2}`, ``, "ab"}, {`a{2,2}`, ``, "ab"}, {`a{0,4}b{0,1}`, ``, "ab"},
		{`(ab|c){2}`, ``, "abc"}, {`(a|b?){2,3}a`, ``, "ab"}, {`(a*b){2,}`, ``, "ab"}, {`(ab?){0,2}b`, ``, "ab"}, {`(a?){4}`, ``, "ab"}, {`(a?){2,}b`, ``, "ab"},
		{`a{2}{2}`, `(?:a{2}){2}`, "ab"}, {`a{1,2}{2}`, `(?:a{1,2}){2}`, "ab"}, {`a?*`, `(?:a?)*`, "ab"}, {`a+?`, `(?:a+)?`, "ab"}, {`a{2}*`, `(?:a{2})*`, "ab"}, {`a{2,}?b`, `(?:a{2,})?b`, "ab"}, {`a{3}+`, `(?:a{3})+`, "ab"},
		{`(i:aB)c`, `(?i:aB)c`, "abABc"}, {`(i:[^a]b)`, `(?i:[^a]b)`, "abAB"}, {`[^a]\.`, ``, "a.b\n"}, {`.a`, ``, "a\né\U0010ffff"}, {`\x41\u{416}`, `\x41\x{416}`, "AЖa"},
		{`[\u{ffff}-\u{10000}]{2}`, `[\x{ffff}-\x{10000}]{2}`, "\ufffe\uffff\U00010000\U00010001"},
	} {
		text, other := c.text, c.other
		if other == "" {
			other = text
		}
		n := laid(t, text)
		r := regexp.MustCompile(`\A(?:` + other + `)\z`)
		for _, w := range words(c.letters, 6) {
			got := n.ends(w)&n.Ends != 0
			if w == "" {
				got = n.Empty[0]
			}
			if got != r.MatchString(w) {
				t.Errorf("%s: %q: %v", c.text, w, got)
			}
		}
	}
}

func TestHowManyPlaces(t *testing.T) {
	for text, want := range map[string]int{`()`: 0, `a`: 1, `a{4}{4}b{4}c{4}`: 24, `a{3,}`: 3, `a*`: 1, `(ab?){2,3}`: 6, `a{0}b`: 1, `(a{0,}){2}`: 2, `(()(a)())`: 1} {
		if n := laid(t, text); len(n.Sets) != want || len(n.Follow) != want {
			t.Errorf("%s: %d and %d places, want %d", text, len(n.Sets), len(n.Follow), want)
		}
	}
}

// The places of rules lie one behind the other; one that stands alone is found as it is in the net of all.
func TestSeveralRules(t *testing.T) {
	texts := []string{`ab*`, `()`, `a{2}|c`, `a?`}
	n := laid(t, texts...)
	if len(n.Rules) != 4 || n.Rules[0] != 3 || n.Rules[1] != 0 || n.Rules[2] != 28 || n.Rules[3] != 32 {
		t.Errorf("places of rules: %v", n.Rules)
	}
	for r, text := range texts {
		one := laid(t, text)
		if n.Empty[r] != one.Empty[0] || n.Empty[r] != (r == 1 || r == 3) {
			t.Errorf("%s: the empty word: %v", text, n.Empty[r])
		}
		for _, w := range words("abc", 5) {
			if (n.ends(w)&n.Ends&n.Rules[r] != 0) != (one.ends(w)&one.Ends != 0) {
				t.Errorf("%s: %q", text, w)
			}
		}
	}
}
