package words

import (
	"lexer/chars"
	"lexer/places"
)

// sorter tells by the places that words lead to whether they are alike.
type sorter struct {
	net    *places.Net
	areas  chars.Areas
	follow *spread
	tails  []int32 // by tail: see tailsOf
	found  []int   // by kind: the places that one word of it leads to
	marks  []int   // tails: of any two kinds there is one here that tells them apart
}

func newSorter(n *places.Net) *sorter {
	a := chars.Part(n.Sets)
	return &sorter{net: n, areas: a, follow: newSpread(n.Follow), tails: tailsOf(n, a.Sets)}
}

// row tells by letter the kind of the words from which these places may come next.
func (s *sorter) row(next int) []int {
	var row []int
	for _, set := range s.areas.Sets {
		k := s.kindOf(next & set)
		row = append(row, k)
	}
	return row
}

// kindOf tells the kind of the words that lead to these places; it is a new one, if a tail tells them apart from all that were found.
func (s *sorter) kindOf(set int) int {
	k := s.unmarked(set)
	if k < len(s.found) {
		tail := s.tailBetween(set, s.found[k])
		if tail < 0 {
			return k
		}
		s.marks = append(s.marks, tail)
	}
	s.found = append(s.found, set)
	return len(s.found) - 1
}

// unmarked tells the only kind that no mark tells apart from the places, or the number of kinds if there is none.
func (s *sorter) unmarked(set int) int {
	for k, other := range s.found {
		if s.marksAgree(set, other) {
			return k
		}
	}
	return len(s.found)
}

func (s *sorter) marksAgree(a int, b int) bool {
	for _, tail := range s.marks {
		if s.differ(a, b, tail) {
			return false
		}
	}
	return true
}

// tailBetween tells a tail that tells the places apart, or -1 if there is none.
func (s *sorter) tailBetween(a int, b int) int {
	if a == b {
		return -1
	}
	for _, tail := range s.tails {
		if s.differ(a, b, int(tail)) {
			return int(tail)
		}
	}
	return -1
}

func (s *sorter) differ(a int, b int, tail int) bool {
	x := a & tail
	y := b & tail
	if x == y {
		return false
	}
	first := s.ruleOf(x)
	return first != s.ruleOf(y)
}

// ruleOf tells the first rule that one of the places is of.
func (s *sorter) ruleOf(set int) int {
	for r, of := range s.net.Rules {
		if set&of != 0 {
			return r
		}
	}
	return None
}
