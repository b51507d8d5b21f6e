package run

import (
	"lexer/api"
	"lexer/tables"
)

// takeOfStream: a byte is taken when as many bytes have come behind it as one looks ahead.
func (r *Run) takeOfStream(b byte) {
	r.held.add(b)
	r.ahead = r.tables.Further(r.ahead, r.tables.Kinds[b])
	if r.held.count > r.tables.Ahead {
		r.step()
	}
}

// closeStream: the text's end lies ahead, as often as there is room for it.
func (r *Run) closeStream() {
	end := r.tables.End()
	for i := r.held.count; i < r.tables.Ahead; i++ {
		r.ahead = r.tables.Further(r.ahead, end)
	}
	for r.held.count > 0 && r.open {
		r.ahead = r.tables.Further(r.ahead, end)
		r.step()
	}
	if !r.open {
		return
	}
	if r.here.at == r.begin.at {
		r.last(api.End)
	} else {
		r.last(api.NoMatch)
	}
}

// step takes the first byte that is held.
func (r *Run) step() {
	b := r.held.at(0)
	r.held.drop(1)
	r.here = r.here.behind(b)
	r.state = r.tables.Step(r.state, b)
	rule := r.tables.Ends[r.state]
	if rule != tables.None && !r.tables.Longer(r.ahead, r.state) {
		r.token(rule, r.here)
	} else if !r.tables.Live[r.state] {
		r.last(api.NoMatch)
	}
}
