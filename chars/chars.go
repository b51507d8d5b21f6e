// Package chars: sets of characters (P5).
package chars

// Is tells whether the number is that of a Unicode scalar value.
func Is(n int) bool {
	return n >= 0 && n < 0xd800 || n > 0xdfff && n <= 0x10ffff
}

// Range: the numbers from Low to High, both among them.
type Range struct {
	Low, High int
}

// Set: the characters of the ranges, which may overlap, or, with Others, those of none of them.
type Set struct {
	Ranges []Range
	Others bool
}

// One is the set of this character alone.
func One(c int) Set {
	return Set{Ranges: []Range{{c, c}}}
}

// Dot is the set of all characters but the line feed.
func Dot() Set {
	return Set{Ranges: []Range{{'\n', '\n'}}, Others: true}
}

// Has tells false of what is no character, though it lie in a range.
func (s Set) Has(c int) bool {
	return Is(c) && s.lists(c) != s.Others
}

func (s Set) lists(c int) bool {
	for _, r := range s.Ranges {
		if r.Low <= c && c <= r.High {
			return true
		}
	}
	return false
}

// BothCases gives each letter that the ranges hold its other case, ahead of what Others makes of them.
func (s Set) BothCases() Set {
	both := Set{Others: s.Others}
	for _, r := range s.Ranges {
		both.Ranges = append(both.Ranges, r)
		both.addMoved(r, 'A', 'Z', 'a'-'A')
		both.addMoved(r, 'a', 'z', 'A'-'a')
	}
	return both
}

// addMoved adds what the range has between the letters, so far away.
func (s *Set) addMoved(r Range, first int, last int, far int) {
	if r.Low > first {
		first = r.Low
	}
	if r.High < last {
		last = r.High
	}
	if first <= last {
		s.Ranges = append(s.Ranges, Range{first + far, last + far})
	}
}
