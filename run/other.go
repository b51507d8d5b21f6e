package run

import (
	"lexer/api"
	"lexer/tables"
)

// takeOfOther: if there is no room any more, all that is held is, or begins, a token.
func (r *Run) takeOfOther(b byte) {
	if r.held.count >= r.tables.Hold {
		r.last(api.Full)
		return
	}
	r.held.add(b)
	r.takeHeld()
}

// closeOther: at the text's end the longest tokens are known.
func (r *Run) closeOther() {
	for r.held.count > 0 && r.open {
		r.longest()
		r.takeHeld()
	}
	if r.open {
		r.last(api.End)
	}
}

// takeHeld takes all that is held, and goes back to a token's end whenever no longer one can come.
func (r *Run) takeHeld() {
	for r.taken < r.held.count && r.open {
		b := r.held.at(r.taken)
		r.taken++
		r.state = r.tables.Step(r.state, b)
		if r.tables.Ends[r.state] != tables.None {
			r.rule = r.tables.Ends[r.state]
			r.length = r.taken
		}
		if !r.tables.Live[r.state] {
			r.longest()
		}
	}
}

// longest: the longest token so far is the longest one.
func (r *Run) longest() {
	if r.length == 0 {
		r.last(api.NoMatch)
		return
	}
	end := r.begin
	for i := 0; i < r.length; i++ {
		end = end.behind(r.held.at(i))
	}
	r.held.drop(r.length)
	r.taken = 0
	r.length = 0
	r.token(r.rule, end)
}
