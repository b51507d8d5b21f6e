// Package words: the kinds of words of a mode (P6), as far as they are whole characters.
package words

import (
	"lexer/chars"
	"lexer/places"
)

// None is told instead of a rule where there is none.
const None = -1

// Kinds: what comes out if a character is put behind words of a kind, and which rule of the mode these have.
type Kinds struct {
	Areas chars.Areas // the letters: characters of one letter lead on alike
	Next  [][]int     // by kind and letter: a kind
	Rules []int       // by kind: the rule of its words, from 0 on in each mode, or None
	Start int         // the kind of the empty word
	Dead  int         // the kind of the words from which no token can come any more
}

// Sort finds the kinds of a net's words, unless there are more than so many.
// It takes all words of one kind as one, and so goes through no more of them than there are kinds, however many sets of places they lead to.
func Sort(n *places.Net, most int) (*Kinds, bool) {
	s := newSorter(n)
	k := &Kinds{Areas: s.areas}
	start := s.row(n.First)
	for i := 0; i < len(s.found); i++ {
		if len(s.found) > most {
			return nil, false
		}
		set := s.found[i]
		row := s.row(s.follow.of(set))
		k.Next = append(k.Next, row)
		k.Rules = append(k.Rules, s.ruleOf(set&n.Ends))
	}
	k.Dead = s.kindOf(0)
	k.Start = k.like(start)
	if k.Start == len(k.Next) {
		k.Next = append(k.Next, start)
		k.Rules = append(k.Rules, None)
	}
	return k, true
}

// like tells the kind of words that have no rule and lead on like that, or the number of kinds if there is none.
// The empty word is looked for in this way, as it has no rule even where a rule denotes it.
func (k *Kinds) like(next []int) int {
	for i, row := range k.Next {
		if k.Rules[i] == None && equal(row, next) {
			return i
		}
	}
	return len(k.Next)
}

func equal(a []int, b []int) bool {
	if len(a) != len(b) {
		return false
	}
	for i := range a {
		if a[i] != b[i] {
			return false
		}
	}
	return true
}
