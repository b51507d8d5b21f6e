package words

import (
	"fmt"
	"strings"
	"testing"

	"lexer/expr"
	"lexer/places"
)

// net: of rules that semicolons part.
func net(t *testing.T, rules string) *places.Net {
	t.Helper()
	var trees []*expr.Tree
	for _, text := range strings.Split(rules, "; ") {
		tree, ok := expr.Read(text, nil)
		if !ok {
			t.Fatalf("%q is none", text)
		}
		trees = append(trees, tree)
	}
	return places.Lay(trees)
}

// has: the rules have so many kinds of words, and just that limit suffices, but for the kind of the empty word, which may come on top.
func has(t *testing.T, rules string, want int) *Kinds {
	t.Helper()
	n := net(t, rules)
	k, ok := Sort(n, 200)
	if !ok || len(k.Next) != want || len(k.Rules) != want {
		t.Fatalf("%s: %v, want %d kinds", rules, k, want)
	}
	if _, ok := Sort(n, want); !ok {
		t.Errorf("%s: not with %d kinds", rules, want)
	}
	if want > 2 {
		if _, ok := Sort(n, want-2); ok {
			t.Errorf("%s: with %d kinds", rules, want-2)
		}
	}
	return k
}

// walk: the kind of a word.
func (k *Kinds) walk(word string) int {
	at := k.Start
	for _, c := range word {
		at = k.Next[at][k.Areas.Letter(int(c))]
	}
	return at
}

func TestHowManyKinds(t *testing.T) {
	has(t, "()", 1)
	has(t, "a", 3)
	has(t, "a*", 3)
	has(t, "a+", 3)
	has(t, "(ab)*c", 4)
	has(t, "[^\\x00-\\u{10ffff}]", 1)
	has(t, "a[^\\x00-\\u{10ffff}]|b", 3)
	has(t, "a; b; c", 5)
	has(t, "a|b|c", 3)
	has(t, "a; [ab]", 4)
	has(t, "a{4}{4}a{4}a{4}", 26)
	has(t, "(a|b)*a(a|b)(a|b)", 9)
	has(t, "[a-z][a-z0-9]*; [0-9]+; [ \\n]+", 5)
	has(t, "if|else; [a-z]+", 8)
}

// The empty word has no rule, and yet may be of the kind of other words.
func TestTheEmptyWord(t *testing.T) {
	k := has(t, "a*", 3)
	if k.Start == k.walk("a") || k.Rules[k.Start] != None || k.Rules[k.walk("a")] != 0 {
		t.Error("the empty word is a token")
	}
	k = has(t, "(ab)*c", 4)
	if k.Start != k.walk("ab") || k.Start == k.walk("a") {
		t.Error("the empty word and ab are not alike")
	}
	k = has(t, "(ab)+", 4)
	if k.Start == k.walk("ab") {
		t.Error("the empty word and ab are alike")
	}
	k = has(t, "()", 1)
	if k.Start != k.Dead {
		t.Error("a token comes from the empty word")
	}
	k = has(t, "a*; ab*", 5)
	if k.Rules[k.walk("a")] != 0 || k.Rules[k.walk("ab")] != 1 || k.walk("aba") != k.Dead {
		t.Error("rules of words")
	}
}

// The first rule is that of a word, whichever was laid down where.
func TestRulesOfWords(t *testing.T) {
	k := has(t, "if; [a-z]+; .", 6)
	for word, want := range map[string]int{"": None, "i": 1, "if": 0, "iff": 1, "x": 1, "7": 2, "77": None, "\n": None, "é": 2, "i7": None} {
		if got := k.Rules[k.walk(word)]; got != want {
			t.Errorf("%q: rule %d, want %d", word, got, want)
		}
	}
	if k.walk("77") != k.Dead || k.walk("\n") != k.Dead || k.walk("7") == k.Dead {
		t.Error("words from which no token comes")
	}
}

// By sets of places there would be up to some millions of states, on the way forth, or back, or both.
func TestFewKindsOfManySets(t *testing.T) {
	for _, rules := range []string{
		"[ab]*; [ab]*a[ab]{4}{4}[ab]{4}",
		"[ab]*; [ab]{4}{4}[ab]{4}a[ab]*",
		"[ab]*a[ab]{4}{4}[ab]{4}|[ab]*",
		"[ab]{4}{4}[ab]{4}a[ab]*|[ab]*",
		"[ab]*; [ab]*a[ab]{4}[ab]{4}|[ab]{4}[ab]{4}a[ab]*",
		"[ab]*; ([ab]|[ab]{4}{4}[ab]{4}a)*",
		"[ab]*; ([ab]|a[ab]{4}{4}[ab]{4})*",
	} {
		has(t, rules, 3)
	}
	has(t, "([ab][ab])*|[ab]([ab][ab])*; [ab]*a[ab]{4}{3}[ab]{2,3}", 3)
	for _, rules := range []string{"[ab]*a[ab]{4}{4}[ab]{4}", "[ab]*a[ab]{4}{4}[ab]{4}b", "[ab]*(a[ab]{4}{2}|b[ab]{4}{3})"} {
		if k, ok := Sort(net(t, rules), 200); ok || k != nil {
			t.Errorf("%s: %d kinds", rules, len(k.Next))
		}
	}
}

// ruleBy goes from place to place, and tells the rule of a word.
func ruleBy(n *places.Net, word string) int {
	set := 0
	next := n.First
	for _, c := range word {
		set = 0
		for p, s := range n.Sets {
			if next>>p&1 == 1 && s.Has(int(c)) {
				set |= 1 << p
			}
		}
		next = 0
		for p, follow := range n.Follow {
			if set>>p&1 == 1 {
				next |= follow
			}
		}
	}
	for r, of := range n.Rules {
		if set&n.Ends&of != 0 {
			return r
		}
	}
	return None
}

// By the words of P6: short words, and which rule there is with each short word behind them.
func TestKindsByDefinition(t *testing.T) {
	list := []string{""}
	for i := 0; i < len(list); i++ {
		if len(list[i]) < 4 {
			list = append(list, list[i]+"a", list[i]+"b", list[i]+"-")
		}
	}
	for _, rules := range []string{
		"a", "ab", "a*", "a*b", "(ab)*", "(a|b)*a", "(a|b)*a(a|b)", "a; b", "a; a", "a; [ab]", "a|ab; b", "(ab)*; a*", "ab?; (ab)*; b+", "[^a]b; a.", "(a|b)(a|b); a*", "a{2,3}; a*b", "()", "a{0}|b; ()", ".; ..; a.",
	} {
		n := net(t, rules)
		kinds := map[string]string{}
		for _, w := range list {
			row := ""
			for _, v := range list {
				row += fmt.Sprint(ruleBy(n, w+v), " ")
			}
			kinds[row] = w
		}
		k := has(t, rules, len(kinds))
		for _, w := range list {
			if k.Rules[k.walk(w)] != ruleBy(n, w) {
				t.Errorf("%s: %q has the rule %d", rules, w, k.Rules[k.walk(w)])
			}
		}
	}
}
