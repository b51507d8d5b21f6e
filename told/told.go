// Package told: what is told of a lexer (P6 and P7).
package told

import (
	"lexer/api"
	"lexer/states"
	"lexer/tables"
)

// Report tells of the modes, and of the kinds of bytes that they have; the rules of all are told in their order.
func Report(modes []states.Mode, kinds int, force bool) api.Report {
	r := api.Report{}
	for _, m := range modes {
		mode := tellMode(m.Table)
		r.Modes = append(r.Modes, mode)
		r.Ahead = further(r.Ahead, mode.Distance)
		for rule, empty := range m.Empty {
			r.Shadowed = append(r.Shadowed, !hasRule(m.Table, rule))
			r.Empty = append(r.Empty, empty)
		}
	}
	r.Stream = !force && isStream(r.Ahead, kinds)
	return r
}

// tellMode tells the words that show its distance, too.
func tellMode(t states.Table) api.Mode {
	fronts, ended := frontsOf(t)
	if !ended {
		from, x, y, z := roundabout(t)
		return api.Mode{States: len(t.Next), Distance: -1, From: from, X: x, Y: y, Z: z}
	}
	from, to := pair(t, fronts)
	return api.Mode{States: len(t.Next), Distance: len(fronts), From: from, To: to}
}

// further tells the greater of two distances; -1 is above all others.
func further(a int, b int) int {
	if a < 0 || b < 0 {
		return -1
	}
	if a > b {
		return a
	}
	return b
}

func hasRule(t states.Table, rule int) bool {
	for _, r := range t.Rules {
		if r == rule {
			return true
		}
	}
	return false
}

// isStream: a table of what may lie ahead must not have too many rows.
func isStream(ahead int, kinds int) bool {
	return ahead >= 0 && tables.Rows(kinds, ahead) <= api.MaxExt
}
