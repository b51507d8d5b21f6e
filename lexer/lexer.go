// Package lexer: a lexer out of a specification: see DOC.md.
package lexer

import (
	"lexer/api"
	"lexer/places"
	"lexer/run"
	"lexer/spec"
	"lexer/states"
	"lexer/tables"
	"lexer/told"
	"lexer/words"
)

// Lexer is what a specification gives.
type Lexer struct {
	tables *tables.Tables
}

// Scanner takes a text in pieces.
type Scanner struct {
	run run.Run
}

// Generate makes the lexer of a specification, and tells of it (P3 to P7).
func Generate(text string, l api.Limits) (*Lexer, api.Report, api.Errno) {
	if l.States < 1 || l.States > api.MaxStates || l.Hold < 1 || l.Hold > api.MaxHold {
		return nil, api.Report{}, api.ErrLimit
	}
	s, line, e := spec.Read(text)
	if e != api.OK {
		return nil, api.Report{Line: line}, e
	}
	modes, ok := modesOf(s, l.States)
	if !ok {
		return nil, api.Report{}, api.ErrStates
	}
	t := tables.Make(modes, s.Acts, s.Pushed, l.Hold)
	r := told.Report(modes, t.Count, l.Force)
	if r.Stream {
		t.MakeStream(r.Ahead)
	}
	return &Lexer{tables: t}, r, api.OK
}

// modesOf makes the states of all modes, unless there are more than so many in all.
func modesOf(s spec.Spec, most int) ([]states.Mode, bool) {
	var modes []states.Mode
	for _, m := range s.Modes {
		n := places.Lay(m.Rules)
		kinds, few := words.Sort(n, most)
		if !few {
			return nil, false
		}
		table, fits := states.Make(kinds, most)
		if !fits {
			return nil, false
		}
		most -= len(table.Next)
		modes = append(modes, states.Mode{Table: table, Empty: n.Empty})
	}
	return modes, true
}

// Scan tells a whole text's events (P8).
func (x *Lexer) Scan(w string) []api.Event {
	s := x.Begin()
	list := s.Push(w)
	rest := s.Close()
	return append(list, rest...)
}

// Begin makes a scanner at the beginning (P9). One of no lexer tells nothing.
func (x *Lexer) Begin() *Scanner {
	if x == nil || x.tables == nil {
		return &Scanner{}
	}
	return &Scanner{run: run.Begin(x.tables)}
}

// Push takes more bytes, and tells what is known by them (P9).
func (s *Scanner) Push(b string) []api.Event {
	if s == nil {
		return nil
	}
	return s.run.Push(b)
}

// Close: there are no more bytes: the rest (P9).
func (s *Scanner) Close() []api.Event {
	if s == nil {
		return nil
	}
	return s.run.Close()
}

// Bytes tells the lexer as bytes (P10). Those of no lexer are none.
func (x *Lexer) Bytes() string {
	if x == nil || x.tables == nil {
		return ""
	}
	return x.tables.Bytes()
}

// Load makes the lexer that bytes are (P10).
func Load(b string) (*Lexer, api.Errno) {
	t, ok := tables.Load(b)
	if !ok {
		return nil, api.ErrBytes
	}
	return &Lexer{tables: t}, api.OK
}
