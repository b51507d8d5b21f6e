// Package spec: which texts are specifications, and what they say (P3 and P4).
package spec

import (
	"lexer/api"
	"lexer/expr"
)

// Spec: the modes of a specification, in their order. As the rules of a mode stand together, those of all modes are in their order, too.
type Spec struct {
	Modes []Mode
}

// Mode: its name, and the expressions of its rules.
type Mode struct {
	Name  string
	Rules []*expr.Tree
}

// Read tells what a text says, or its first error, but for those that hang on limits; of ErrLine the number of the line too, which is 0 else.
func Read(text string) (Spec, int, api.Errno) {
	if len(text) > api.MaxText {
		return Spec{}, 0, api.ErrText
	}
	s := &sheet{}
	line := s.readLines(text)
	if line > 0 {
		return Spec{}, line, api.ErrLine
	}
	if !s.modesStand() {
		return Spec{}, 0, api.ErrModes
	}
	if !s.charsFit() {
		return Spec{}, 0, api.ErrLeaves
	}
	return Spec{Modes: s.modes}, 0, api.OK
}

// sheet: what the lines so far have said.
type sheet struct {
	modes  []Mode
	defs   []expr.Def
	pushed []string // modes that rules push, which may stand further below
	rules  int
}

func (s *sheet) modesStand() bool {
	for _, m := range s.modes {
		if len(m.Rules) == 0 {
			return false
		}
	}
	for _, name := range s.pushed {
		if !s.hasMode(name) {
			return false
		}
	}
	return len(s.modes) > 0
}

func (s *sheet) charsFit() bool {
	for _, m := range s.modes {
		chars := 0
		for _, t := range m.Rules {
			chars += t.Chars
		}
		if chars > api.MaxLeaves {
			return false
		}
	}
	return true
}

func (s *sheet) hasMode(name string) bool {
	for _, m := range s.modes {
		if m.Name == name {
			return true
		}
	}
	return false
}

func (s *sheet) hasDef(name string) bool {
	for _, d := range s.defs {
		if d.Name == name {
			return true
		}
	}
	return false
}
