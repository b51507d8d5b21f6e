// Package run: a text is taken, and its events are told (P8 and P9).
package run

import (
	"lexer/api"
	"lexer/tables"
)

// Run: a text of which some bytes have come. A copy goes on by itself.
type Run struct {
	tables *tables.Tables
	open   bool // there may be more to tell
	told   []api.Event
	stack  [api.MaxStack]int // modes
	depth  int
	begin  place // where the token begins that is looked for
	state  int   // the state of the bytes that have been taken from there on
	held   queue // bytes that have come, and that are needed yet

	// Of a stream, which holds the bytes that have not been taken:
	here  place // behind those that have been taken
	ahead int   // what lies ahead, as package tables has it

	// Of one that is none, which holds all bytes from begin on:
	taken  int // how many of them have been taken
	length int // of the longest token so far; 0, if there is none
	rule   int // its rule
}

// Begin: nothing has come yet.
func Begin(t *tables.Tables) Run {
	first := place{line: 1, col: 1}
	r := Run{tables: t, open: true, begin: first, here: first}
	r.push(0)
	r.state = r.start()
	return r
}

// Push takes more bytes, and tells what is known by them.
func (r *Run) Push(text string) []api.Event {
	for i := 0; i < len(text) && r.open; i++ {
		if r.tables.Stream {
			r.takeOfStream(text[i])
		} else {
			r.takeOfOther(text[i])
		}
	}
	return r.answer()
}

// Close tells the rest, as no more bytes come.
func (r *Run) Close() []api.Event {
	if !r.open {
		return nil
	}
	if r.tables.Stream {
		r.closeStream()
	} else {
		r.closeOther()
	}
	return r.answer()
}

// answer gives away what has been told, so that it is the caller's.
func (r *Run) answer() []api.Event {
	list := r.told
	r.told = nil
	return list
}

// token does what is to be done with the longest token that begins here.
func (r *Run) token(rule int, end place) {
	act := r.tables.Acts[rule]
	if act == api.Push && r.depth == api.MaxStack {
		r.last(api.Overflow)
		return
	}
	if act == api.Pop && r.depth == 1 {
		r.last(api.Underflow)
		return
	}
	if act != api.Skip {
		r.tell(api.Token, rule, end.at)
	}
	if act == api.Pop {
		r.depth--
	}
	if act == api.Push {
		r.push(r.tables.Pushed[rule])
	}
	r.begin = end
	r.state = r.start()
}

// last tells an event behind which there is none.
func (r *Run) last(kind int) {
	r.tell(kind, 0, r.begin.at)
	r.open = false
}

func (r *Run) tell(kind int, rule int, to int) {
	r.told = append(r.told, api.Event{Kind: kind, Rule: rule, From: r.begin.at, To: to, Line: r.begin.line, Col: r.begin.col})
}

func (r *Run) push(mode int) {
	r.stack[r.depth] = mode
	r.depth++
}

// start tells the state in which the mode on top begins.
func (r *Run) start() int {
	return r.tables.Starts[r.stack[r.depth-1]]
}
