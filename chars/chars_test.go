package chars

import (
	"math"
	"testing"
	"unicode/utf8"
)

func TestIs(t *testing.T) {
	for n := -10; n < 0x111000; n++ {
		if Is(n) != utf8.ValidRune(rune(n)) {
			t.Fatalf("%x: %v", n, Is(n))
		}
	}
	if Is(math.MinInt) || Is(math.MaxInt) || Is(1<<40) {
		t.Error("numbers that are no characters are taken")
	}
}

// edges: characters and other numbers beside each border that the document names.
var edges = []int{
	-1, 0, 9, 10, 11, 'A' - 1, 'A', 'Z', 'Z' + 1, 'a' - 1, 'a', 'z', 'z' + 1, 0x7f, 0x80, 0x7ff, 0x800, 0xd7fe, 0xd7ff, 0xd800, 0xdbff, 0xdfff, 0xe000, 0xe001, 0xffff, 0x10000, 0x10fffe, 0x10ffff, 0x110000, 0x13ffff,
}

func TestSetsOfOneAndTheDot(t *testing.T) {
	for _, c := range edges {
		if One('a').Has(c) != (c == 'a') || One(0xe000).Has(c) != (c == 0xe000) {
			t.Errorf("%x: one character", c)
		}
		if Dot().Has(c) != (Is(c) && c != '\n') {
			t.Errorf("%x: the dot", c)
		}
	}
}

// All ranges from one edge to another: numbers that are no characters are in no set.
func TestRanges(t *testing.T) {
	for _, low := range edges {
		for _, high := range edges {
			s := Set{Ranges: []Range{{low, high}, {'m', 'm'}}}
			o := Set{Ranges: s.Ranges, Others: true}
			for _, c := range edges {
				lies := low <= c && c <= high || c == 'm'
				if s.Has(c) != (Is(c) && lies) || o.Has(c) != (Is(c) && !lies) {
					t.Fatalf("%x to %x, %x: %v and %v", low, high, c, s.Has(c), o.Has(c))
				}
			}
		}
	}
	if !(Set{Others: true}).Has('x') || (Set{}).Has('x') {
		t.Error("a set without ranges")
	}
}

// otherCase: of a letter A to Z or a to z, else the character itself.
func otherCase(c int) int {
	switch {
	case c >= 'A' && c <= 'Z':
		return c + 32
	case c >= 'a' && c <= 'z':
		return c - 32
	}
	return c
}

func TestBothCases(t *testing.T) {
	for low := 0; low < 140; low++ {
		for high := low; high < 140; high++ {
			s := Set{Ranges: []Range{{low, high}}}
			both := s.BothCases()
			others := Set{Ranges: s.Ranges, Others: true}.BothCases()
			for c := 0; c < 260; c++ {
				want := s.Has(c) || s.Has(otherCase(c))
				if both.Has(c) != want || others.Has(c) == want {
					t.Fatalf("%d to %d: %d: %v", low, high, c, both.Has(c))
				}
			}
			if len(s.Ranges) != 1 || s.Ranges[0] != (Range{low, high}) {
				t.Fatal("the set itself was changed")
			}
		}
	}
	// Letters that other alphabets' cases would lead to stay as they are.
	if One('k').BothCases().Has(0x212a) || One('s').BothCases().Has(0x17f) || One(0xe9).BothCases().Has(0xc9) || One(0x430).BothCases().Has(0x410) {
		t.Error("a letter has another case than A to Z and a to z")
	}
}

// Each number is in the sets that its letter says, and no two letters say the same.
func TestAreas(t *testing.T) {
	lists := [][]Set{
		nil,
		{One('a')},
		{One(0), One(0x10ffff)},
		{Dot(), One('\n'), {Ranges: []Range{{0, 0x10ffff}}, Others: true}},
		{{Ranges: []Range{{'a', 'z'}, {'0', '9'}, {'m', 'q'}}}, {Ranges: []Range{{'b', 'y'}}, Others: true}, One('q')},
		{{Ranges: []Range{{0xd7f0, 0xe010}}}, {Ranges: []Range{{0x7f, 0x80}, {0x7ff, 0x800}}}, {Ranges: []Range{{0xffff, 0x10000}}, Others: true}},
		{{Ranges: []Range{{'c', 'c'}, {'a', 'a'}, {'b', 'b'}, {'a', 'a'}}}, {Ranges: []Range{{'b', 'c'}}}},
	}
	for i, sets := range lists {
		a := Part(sets)
		for n := 0; n < 0x140000; n++ {
			bits := a.Sets[a.Letter(n)]
			for k, s := range sets {
				if s.Has(n) != (bits>>k&1 == 1) {
					t.Fatalf("list %d: %x: set %d", i, n, k)
				}
			}
			if n > 0 && a.Alike(n-1, n) != (a.Letter(n-1) == a.Letter(n)) {
				t.Fatalf("list %d: %x and the number ahead", i, n)
			}
		}
		known := map[int]bool{}
		for _, bits := range a.Sets {
			if known[bits] || bits>>len(sets) != 0 {
				t.Errorf("list %d: letters %b", i, a.Sets)
			}
			known[bits] = true
		}
		if !known[0] {
			t.Errorf("list %d: no letter for numbers that are no characters", i)
		}
	}
}

func TestAlike(t *testing.T) {
	a := Part([]Set{One('a'), {Ranges: []Range{{0x400, 0x4ff}}}})
	for _, c := range []struct {
		first, last int
		want        bool
	}{
		{'a', 'a', true}, {0, 'a' - 1, true}, {0, 'a', false}, {'b', 0x3ff, true}, {'b', 0x400, false}, {0x400, 0x4ff, true}, {0x400, 0x500, false}, {0x3ff, 0x500, false}, {0x500, 0x13ffff, true},
	} {
		if a.Alike(c.first, c.last) != c.want {
			t.Errorf("%x to %x: %v", c.first, c.last, !c.want)
		}
	}
}
