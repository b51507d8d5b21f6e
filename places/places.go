// Package places: where one may stand in the expressions of a mode: each character of them, repetitions written out, is a place.
// Sets of places are ints: the place p is the bit 1<<p, as there are api.MaxLeaves of them at the most.
package places

import (
	"lexer/chars"
	"lexer/expr"
)

// Net: how one goes from place to place. One stands at a place behind the character that led there.
type Net struct {
	Sets   []chars.Set // by place: the characters that lead there
	Follow []int       // by place: which places may come next
	First  int         // which places may come first
	Ends   int         // which places may come last
	Rules  []int       // by rule: its places, all of which lie behind those of the rules ahead
	Empty  []bool      // by rule: whether it denotes the empty word
}

// Lay makes the net of the rules' expressions.
func Lay(rules []*expr.Tree) *Net {
	n := &Net{}
	for _, t := range rules {
		before := len(n.Sets)
		s := n.tree(t)
		n.First |= s.first
		n.Ends |= s.last
		n.Rules = append(n.Rules, 1<<len(n.Sets)-1<<before)
		n.Empty = append(n.Empty, s.empty)
	}
	return n
}

// span: of a part its places that may come first, and last; and whether it denotes the empty word.
type span struct {
	first, last int
	empty       bool
}

func (n *Net) tree(t *expr.Tree) span {
	switch t.Kind {
	case expr.One:
		return n.place(t.Set)
	case expr.Row:
		return n.row(t)
	case expr.Either:
		return n.either(t)
	case expr.Again:
		return n.again(t)
	}
	return span{empty: true}
}

func (n *Net) place(s chars.Set) span {
	bit := 1 << len(n.Sets)
	n.Sets = append(n.Sets, s)
	n.Follow = append(n.Follow, 0)
	return span{first: bit, last: bit}
}

func (n *Net) row(t *expr.Tree) span {
	all := span{empty: true}
	for _, p := range t.Parts {
		s := n.tree(p)
		all = n.behind(all, s)
	}
	return all
}

func (n *Net) either(t *expr.Tree) span {
	all := span{}
	for _, p := range t.Parts {
		s := n.tree(p)
		all.first |= s.first
		all.last |= s.last
		all.empty = all.empty || s.empty
	}
	return all
}

func (n *Net) again(t *expr.Tree) span {
	all := span{empty: true}
	copies := t.Times.Copies()
	for i := 0; i < copies; i++ {
		s := n.row(t)
		if t.Times.Endless && i == copies-1 {
			n.link(s.last, s.first)
		}
		if i >= t.Times.Least {
			s.empty = true
		}
		all = n.behind(all, s)
	}
	return all
}

// behind lays the second part behind the first one.
func (n *Net) behind(a span, b span) span {
	n.link(a.last, b.first)
	if a.empty {
		a.first |= b.first
	}
	if b.empty {
		b.last |= a.last
	}
	return span{first: a.first, last: b.last, empty: a.empty && b.empty}
}

// link lets the second places come next behind each of the first.
func (n *Net) link(from int, to int) {
	for p := range n.Follow {
		if from>>p&1 == 1 {
			n.Follow[p] |= to
		}
	}
}
