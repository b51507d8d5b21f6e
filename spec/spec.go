// Package spec: which texts are specifications, and what they say (P3 and P4).
package spec

import (
	"lexer/api"
	"lexer/expr"
)

// Spec: the modes of a specification, in their order, and what its rules do. As the rules of a mode stand together, those of all modes are in their order, too.
type Spec struct {
	Modes  []Mode
	Acts   []int // by rule: what it does, as api has it
	Pushed []int // by rule: the number of the mode that it pushes; 0, if it pushes none
}

// Mode: its name, and the expressions of its rules.
type Mode struct {
	Name  string
	Rules []*expr.Tree
}

// Read tells what a text says, or its first error, but for those that hang on limits; of ErrLine the number of the line too, which is 0 else.
func Read(text string) (Spec, int, api.Errno) {
	if len(text) > api.MaxText {
		return Spec{}, 0, api.ErrText
	}
	s := &sheet{}
	line := s.readLines(text)
	if line > 0 {
		return Spec{}, line, api.ErrLine
	}
	pushed, there := s.pushedModes()
	if !there || !s.haveRules() {
		return Spec{}, 0, api.ErrModes
	}
	if !s.charsFit() {
		return Spec{}, 0, api.ErrLeaves
	}
	return Spec{Modes: s.modes, Acts: s.acts, Pushed: pushed}, 0, api.OK
}

// sheet: what the lines so far have said.
type sheet struct {
	modes  []Mode
	defs   []expr.Def
	acts   []int    // by rule
	pushed []string // by rule: the name of the mode that it pushes, which may stand further below; empty, if it pushes none
}

// pushedModes tells by rule the number of the mode that it pushes, and whether all those modes are there.
func (s *sheet) pushedModes() ([]int, bool) {
	var list []int
	for _, name := range s.pushed {
		n := 0
		if name != "" {
			n = s.modeOf(name)
		}
		if n < 0 {
			return nil, false
		}
		list = append(list, n)
	}
	return list, true
}

// haveRules: there is a mode, and each one has a rule.
func (s *sheet) haveRules() bool {
	for _, m := range s.modes {
		if len(m.Rules) == 0 {
			return false
		}
	}
	return len(s.modes) > 0
}

func (s *sheet) charsFit() bool {
	for _, m := range s.modes {
		chars := 0
		for _, t := range m.Rules {
			chars += t.Chars
		}
		if chars > api.MaxLeaves {
			return false
		}
	}
	return true
}

// modeOf tells the number of the mode of that name, or -1, if there is none.
func (s *sheet) modeOf(name string) int {
	for i, m := range s.modes {
		if m.Name == name {
			return i
		}
	}
	return -1
}

func (s *sheet) hasDef(name string) bool {
	for _, d := range s.defs {
		if d.Name == name {
			return true
		}
	}
	return false
}
