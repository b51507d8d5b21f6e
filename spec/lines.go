package spec

import (
	"lexer/api"
	"lexer/expr"
)

// readLines tells the number of the first line that is none, or 0 if all are lines.
func (s *sheet) readLines(text string) int {
	number := 1
	rest := text
	for rest != "" {
		line, behind, ended := cut(rest, '\n')
		if !ended || !s.readLine(line) {
			return number
		}
		rest = behind
		number++
	}
	return 0
}

func (s *sheet) readLine(line string) bool {
	word, rest, parted := cut(line, ' ')
	if !parted {
		return false
	}
	switch word {
	case "mode":
		return s.readMode(rest)
	case "let":
		return s.readLet(rest)
	}
	return s.readRule(word, rest)
}

func (s *sheet) readMode(name string) bool {
	if len(s.modes) >= api.MaxModes || s.modeOf(name) >= 0 || !isName(name) {
		return false
	}
	s.modes = append(s.modes, Mode{Name: name})
	return true
}

// readLet reads the expression ahead of laying the name down, as it does not stand in its own expression.
func (s *sheet) readLet(words string) bool {
	name, body, parted := cut(words, ' ')
	if !parted || len(s.defs) >= api.MaxDefs || s.hasDef(name) || !isName(name) {
		return false
	}
	tree, ok := expr.Read(body, s.defs)
	if !ok {
		return false
	}
	s.defs = append(s.defs, expr.Def{Name: name, Tree: tree})
	return true
}

func (s *sheet) readRule(name string, words string) bool {
	act, body, parted := cut(words, ' ')
	top := len(s.modes) - 1
	if !parted || top < 0 || len(s.acts) >= api.MaxRules || !isName(name) {
		return false
	}
	what, pushed, known := readAct(act)
	tree, ok := expr.Read(body, s.defs)
	if !known || !ok {
		return false
	}
	s.acts = append(s.acts, what)
	s.pushed = append(s.pushed, pushed)
	s.modes[top].Rules = append(s.modes[top].Rules, tree)
	return true
}

// readAct tells what an action does, the name of the mode that it pushes, which is empty if it pushes none, and whether it is an action.
func readAct(act string) (int, string, bool) {
	switch act {
	case "":
		return 0, "", false
	case ".":
		return api.Emit, "", true
	case "-":
		return api.Skip, "", true
	case "<":
		return api.Pop, "", true
	}
	if act[0] != '>' || !isName(act[1:]) {
		return 0, "", false
	}
	return api.Push, act[1:], true
}

// cut parts a text at the first such byte, and tells whether there is one.
func cut(text string, at byte) (string, string, bool) {
	for i := 0; i < len(text); i++ {
		if text[i] == at {
			return text[:i], text[i+1:], true
		}
	}
	return text, "", false
}

func isName(s string) bool {
	if s == "" || len(s) > api.MaxName || !isSmall(s[0]) {
		return false
	}
	for i := 1; i < len(s); i++ {
		if !isSmall(s[i]) && (s[i] < '0' || s[i] > '9') {
			return false
		}
	}
	return true
}

func isSmall(c byte) bool {
	return c >= 'a' && c <= 'z'
}
