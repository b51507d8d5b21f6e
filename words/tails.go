package words

import (
	"lexer/api"
	"lexer/places"
)

// tailsOf tells of all words from which places each leads to an end: the sets of places, each once.
// Two words are alike, if of the places that they lead to each of these sets has some of the same rule first.
func tailsOf(n *places.Net, letters []int) []int32 {
	before := newSpread(turned(n.Follow))
	seen := newSeen(len(n.Sets))
	seen.add(n.Ends)
	tails := []int32{int32(n.Ends)}
	for i := 0; i < len(tails); i++ {
		for _, set := range letters {
			t := before.of(int(tails[i]) & set)
			if seen.add(t) {
				tails = append(tails, int32(t))
			}
		}
	}
	return tails
}

// turned tells by place behind which places it may come.
func turned(follow []int) []int {
	before := make([]int, len(follow))
	for p, next := range follow {
		for q := range before {
			if next>>q&1 == 1 {
				before[q] |= 1 << p
			}
		}
	}
	return before
}

// spread tells of a set of places all that belongs to one of them.
// Eight places are looked up at once, as there may be millions of sets.
type spread struct {
	parts [api.MaxLeaves / 8][256]int
}

func newSpread(by []int) *spread {
	s := &spread{}
	for p := 0; p < len(by) && p < api.MaxLeaves; p++ {
		for set := 0; set < 256; set++ {
			if set>>(p%8)&1 == 1 {
				s.parts[p/8][set] |= by[p]
			}
		}
	}
	return s
}

func (s *spread) of(set int) int {
	return s.parts[0][set&255] | s.parts[1][set>>8&255] | s.parts[2][set>>16&255]
}

// seen: which sets of places have come up.
type seen struct {
	bits []uint64
}

func newSeen(places int) *seen {
	return &seen{bits: make([]uint64, 1<<places>>6+1)}
}

// add tells whether the set is new.
func (s *seen) add(set int) bool {
	i := set >> 6
	bit := uint64(1) << (set & 63)
	if i < 0 || i >= len(s.bits) || s.bits[i]&bit != 0 {
		return false
	}
	s.bits[i] |= bit
	return true
}
