// Package spec: which texts are specifications (P3 and P4).
package spec

import (
	"lexer/api"
	"lexer/expr"
)

// Check tells the first error of a text, but for those that hang on limits; of ErrLine the number of the line too, which is 0 else.
func Check(text string) (int, api.Errno) {
	if len(text) > api.MaxText {
		return 0, api.ErrText
	}
	s := &sheet{}
	line := s.readLines(text)
	if line > 0 {
		return line, api.ErrLine
	}
	if !s.modesStand() {
		return 0, api.ErrModes
	}
	if !s.charsFit() {
		return 0, api.ErrLeaves
	}
	return 0, api.OK
}

// sheet: what the lines so far have said.
type sheet struct {
	modes  []mode
	defs   []expr.Def
	pushed []string // modes that rules push, which may stand further below
	rules  int
}

// mode: how many rules it has, and how many characters these have in all.
type mode struct {
	name         string
	rules, chars int
}

func (s *sheet) modesStand() bool {
	for _, m := range s.modes {
		if m.rules == 0 {
			return false
		}
	}
	for _, name := range s.pushed {
		if !s.hasMode(name) {
			return false
		}
	}
	return len(s.modes) > 0
}

func (s *sheet) charsFit() bool {
	for _, m := range s.modes {
		if m.chars > api.MaxLeaves {
			return false
		}
	}
	return true
}

func (s *sheet) hasMode(name string) bool {
	for _, m := range s.modes {
		if m.name == name {
			return true
		}
	}
	return false
}

func (s *sheet) hasDef(name string) bool {
	for _, d := range s.defs {
		if d.Name == name {
			return true
		}
	}
	return false
}
