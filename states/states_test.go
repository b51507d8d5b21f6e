package states

import (
	"strings"
	"testing"
	"unicode/utf8"

	"lexer/expr"
	"lexer/places"
	"lexer/words"
)

// kinds: of rules that semicolons part.
func kinds(t *testing.T, rules string) *words.Kinds {
	t.Helper()
	var trees []*expr.Tree
	for _, text := range strings.Split(rules, "; ") {
		tree, ok := expr.Read(text, nil)
		if !ok {
			t.Fatalf("%q is none", text)
		}
		trees = append(trees, tree)
	}
	k, ok := words.Sort(places.Lay(trees), 200)
	if !ok {
		t.Fatalf("%q has too many kinds", rules)
	}
	return k
}

// has: the rules have so many states, and just that limit suffices.
func has(t *testing.T, rules string, want int) Table {
	t.Helper()
	k := kinds(t, rules)
	table, ok := Make(k, want)
	if !ok || len(table.Next) != want || len(table.Rules) != want {
		loose, _ := Make(k, 2000)
		t.Errorf("%s: %d states, want %d", rules, len(loose.Next), want)
	}
	for most := 0; most < want; most++ {
		if less, ok := Make(k, most); ok || less.Next != nil {
			t.Errorf("%s: with %d states", rules, most)
		}
	}
	return table
}

func (table Table) walk(word string) int {
	at := table.Start
	for i := 0; i < len(word); i++ {
		at = table.Next[at][word[i]]
	}
	return at
}

func TestHowManyStates(t *testing.T) {
	has(t, `()`, 1)
	has(t, `a`, 3)
	has(t, `\xe9`, 4)
	has(t, `\u{416}`, 4)
	has(t, `\u{800}`, 5)
	has(t, `\u{10000}`, 6)
	has(t, `[\u{7f}-\u{80}]`, 4)
	has(t, `[\u{7ff}-\u{800}]`, 6)
	has(t, `[\u{ffff}-\u{10000}]`, 8)
	has(t, `[\u{d7ff}-\u{e000}]`, 7)
	has(t, `[\u{d7c0}-\u{e03f}]`, 6)
	has(t, `\u{10ffff}`, 6)
	has(t, `.`, 10)
	has(t, `.*`, 10)
	has(t, `[^a]; a`, 11)
	has(t, `[^\x00-\x7f]`, 10)
	has(t, `[\u{80}-\u{7ff}]`, 4)
	has(t, `[\u{800}-\u{ffff}]`, 7)
	has(t, `[\u{10000}-\u{10ffff}]`, 8)
	has(t, `[\u{400}-\u{4ff}]+; [\x00-\x7f]`, 5)
}

// All characters, alone, and with one more byte ahead, behind or between: whole ones lead on like their letter, and nothing else does.
func TestAllCharacters(t *testing.T) {
	rules := `[\x00-\x7f\u{7ff}\u{d7ff}]; [\u{80}-\u{800}\u{e000}]; [^\u{ffff}\u{10ffff}]; x.`
	k := kinds(t, rules)
	table, ok := Make(k, 200)
	if !ok {
		t.Fatal("too many states")
	}
	for c := rune(0); c <= 0x10ffff; c++ {
		if !utf8.ValidRune(c) {
			continue
		}
		w := string(c)
		want := k.Rules[k.Next[k.Start][k.Areas.Letter(int(c))]]
		if got := table.Rules[table.walk(w)]; got != want {
			t.Fatalf("%x: rule %d, want %d", c, got, want)
		}
		if table.walk(w+"\xff") != Dead || table.walk("\x80"+w) != Dead || table.walk("\xff"+w) != Dead || c != 'x' && c != '\n' && table.walk(w+"x") != Dead {
			t.Fatalf("%x with a byte more leads on", c)
		}
		for i := 1; i < len(w); i++ {
			if table.Rules[table.walk(w[:i])] != None {
				t.Fatalf("%x: %d bytes of it have a rule", c, i)
			}
		}
	}
}

// Words of bytes that are no characters' lead to Dead: overlong ones, surrogates, and what lies above 10ffff.
func TestBytesOfNoCharacter(t *testing.T) {
	table := has(t, `[\x00-\u{10ffff}]`, 10)
	starts := []string{"\x80", "\xbf", "\xc0", "\xc1", "\xc2", "\xdf", "\xe0", "\xe1", "\xec", "\xed", "\xee", "\xef", "\xf0", "\xf1", "\xf3", "\xf4", "\xf5", "\xf8", "\xfe", "\xff"}
	for _, first := range starts {
		for b := 0; b < 256; b++ {
			for c := 0; c < 256; c++ {
				two := first + string([]byte{byte(b)})
				three := two + string([]byte{byte(c)})
				for _, w := range []string{first, two, three, three + "\x80", three + "\xbf"} {
					// What begins a character is not full in Go's words; what is full is one character, or none.
					r, size := utf8.DecodeRuneInString(w)
					whole := size == len(w) && (r != utf8.RuneError || size > 1)
					open := !utf8.FullRuneInString(w)
					at := table.walk(w)
					if (table.Rules[at] == 0) != whole || (at != Dead) != (whole || open) {
						t.Fatalf("%x: state %d, rule %d", w, at, table.Rules[at])
					}
				}
			}
		}
	}
}

// No two states are alike: some word behind tells them apart.
func TestStatesDiffer(t *testing.T) {
	for _, rules := range []string{`.`, `.*; \n`, `[^a]{2}`, `\u{416}+|\u{10ffff}a; [\u{7ff}-\u{800}]`, `(i:if|else); [a-z]+; [^\u{d7ff}]`} {
		table, ok := Make(kinds(t, rules), 200)
		if !ok {
			t.Fatalf("%s: too many states", rules)
		}
		n := len(table.Next)
		apart := make([][]bool, n)
		for a := range apart {
			apart[a] = make([]bool, n)
			for b := range apart[a] {
				apart[a][b] = table.Rules[a] != table.Rules[b]
			}
		}
		for range n {
			for a := range apart {
				for b := range apart {
					for c := 0; c < 256 && !apart[a][b]; c++ {
						apart[a][b] = apart[table.Next[a][c]][table.Next[b][c]]
					}
				}
			}
		}
		for a := range apart {
			for b := range apart {
				if apart[a][b] == (a == b) {
					t.Errorf("%s: states %d and %d", rules, a, b)
				}
			}
		}
	}
}
