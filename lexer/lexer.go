// Package lexer: a lexer out of a specification: see DOC.md.
package lexer

import (
	"lexer/api"
	"lexer/spec"
)

// Lexer is what a specification gives.
type Lexer struct{}

// Scanner takes a text in pieces.
type Scanner struct{}

// Generate makes the lexer of a specification, and tells of it (P3 to P7).
func Generate(text string, l api.Limits) (*Lexer, api.Report, api.Errno) {
	if l.States < 1 || l.States > api.MaxStates || l.Hold < 1 || l.Hold > api.MaxHold {
		return nil, api.Report{}, api.ErrLimit
	}
	line, e := spec.Check(text)
	if e != api.OK {
		return nil, api.Report{Line: line}, e
	}
	return &Lexer{}, api.Report{}, api.OK
}

// Scan tells a whole text's events (P8).
func (x *Lexer) Scan(w string) []api.Event { return nil }

// Begin makes a scanner at the beginning (P9).
func (x *Lexer) Begin() *Scanner { return &Scanner{} }

// Push takes more bytes, and tells what is known by them (P9).
func (s *Scanner) Push(b string) []api.Event { return nil }

// Close: there are no more bytes: the rest (P9).
func (s *Scanner) Close() []api.Event { return nil }

// Bytes tells the lexer as bytes (P10).
func (x *Lexer) Bytes() string { return "" }

// Load makes the lexer that bytes are (P10).
func Load(b string) (*Lexer, api.Errno) { return nil, api.OK }
