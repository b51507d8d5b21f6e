// Package told: what is told of a lexer (P6 and P7).
package told

import (
	"lexer/api"
	"lexer/states"
)

// Mode: its states, and by rule whether it denotes the empty word.
type Mode struct {
	Table states.Table
	Empty []bool
}

// Report tells of the modes; the rules of all are told in their order.
func Report(modes []Mode, force bool) api.Report {
	r := api.Report{}
	for _, m := range modes {
		far := distance(m.Table)
		r.Modes = append(r.Modes, api.Mode{States: len(m.Table.Next), Distance: far})
		r.Ahead = further(r.Ahead, far)
		for rule, empty := range m.Empty {
			r.Shadowed = append(r.Shadowed, !hasRule(m.Table, rule))
			r.Empty = append(r.Empty, empty)
		}
	}
	r.Stream = !force && isStream(r.Ahead, byteKinds(modes))
	return r
}

// further tells the greater of two distances; -1 is above all others.
func further(a int, b int) int {
	if a < 0 || b < 0 {
		return -1
	}
	if a > b {
		return a
	}
	return b
}

func hasRule(t states.Table, rule int) bool {
	for _, r := range t.Rules {
		if r == rule {
			return true
		}
	}
	return false
}

// isStream: the table of what may lie ahead has a digit more than there are kinds of bytes, for the text's end.
func isStream(ahead int, kinds int) bool {
	rows := 1
	for i := 0; i < ahead && rows <= api.MaxExt; i++ {
		rows *= kinds + 1
	}
	return ahead >= 0 && rows <= api.MaxExt
}

func byteKinds(modes []Mode) int {
	n := 0
	for b := 0; b < 256; b++ {
		if !isLikeOneAhead(modes, b) {
			n++
		}
	}
	return n
}

func isLikeOneAhead(modes []Mode, b int) bool {
	for a := 0; a < b; a++ {
		if leadAlike(modes, a, b) {
			return true
		}
	}
	return false
}

func leadAlike(modes []Mode, a int, b int) bool {
	for _, m := range modes {
		for _, row := range m.Table.Next {
			if row[a] != row[b] {
				return false
			}
		}
	}
	return true
}
