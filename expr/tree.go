package expr

import (
	"lexer/api"
	"lexer/chars"
)

// The kinds of trees.
const (
	Empty  = 0 // the empty word alone
	One    = 1 // one character of a set
	Row    = 2 // the parts one behind the other
	Either = 3 // one of the parts
	Again  = 4 // the only part, several times
)

// Tree: what an expression denotes. Trees may share parts, and nothing changes them.
// Chars is how many characters it has; whatever is above api.MaxLeaves is told as api.MaxLeaves+1: repetitions of repetitions would outgrow an int.
type Tree struct {
	Kind  int
	Set   chars.Set
	Parts []*Tree
	Times Times
	Chars int
}

// Times: how often a thing may stand; where it is endless, Most says nothing.
type Times struct {
	Least, Most int
	Endless     bool
}

// Copies tells how many times what is repeated is written, if the repetition is written out: the last of them again and again, where it is endless.
func (t Times) Copies() int {
	if !t.Endless {
		return t.Most
	}
	if t.Least == 0 {
		return 1
	}
	return t.Least
}

func one(s chars.Set) *Tree {
	return &Tree{Kind: One, Set: s, Chars: 1}
}

// again is the tree, as often as that.
func again(t *Tree, often Times) *Tree {
	a := &Tree{Kind: Again, Times: often, Chars: bounded(t.Chars * often.Copies())}
	a.Parts = append(a.Parts, t)
	return a.plain()
}

// add lays one part more behind those of a Row, or of an Either.
func (t *Tree) add(part *Tree) {
	t.Parts = append(t.Parts, part)
	t.Chars = bounded(t.Chars + part.Chars)
}

// plain: a tree without characters denotes the empty word alone; written out, it might yet have more parts than could be gone through.
func (t *Tree) plain() *Tree {
	if t.Chars == 0 {
		return &Tree{Kind: Empty}
	}
	return t
}

// bounded may be taken of parts, ahead of adding or multiplying them: what was above the bound stays so, unless it stands no times, which is 0 of any number.
func bounded(n int) int {
	if n > api.MaxLeaves {
		return api.MaxLeaves + 1
	}
	return n
}
