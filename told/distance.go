package told

import "lexer/states"

// distance goes on byte by byte, from all tokens at once, through the states in which no token ends, as long as there are such states.
// From each of them a token still comes, as Dead is left out; and who has gone through more of them than there are has been in one of them twice, and may go round again.
func distance(t states.Table) int {
	front := tokens(t)
	for far := 0; far <= len(t.Next); far++ {
		next := reached(t, front)
		if !hasAny(next) {
			return far
		}
		front = withoutTokens(t, next)
	}
	return -1
}

// tokens tells by state whether a token ends there.
func tokens(t states.Table) []bool {
	var list []bool
	for _, rule := range t.Rules {
		list = append(list, rule != states.None)
	}
	return list
}

// reached tells by state whether a byte leads there from one of those; of Dead it says no.
func reached(t states.Table, from []bool) []bool {
	list := make([]bool, len(t.Next))
	for s, row := range t.Next {
		if !from[s] {
			continue
		}
		for _, to := range row {
			list[to] = to != states.Dead
		}
	}
	return list
}

func withoutTokens(t states.Table, from []bool) []bool {
	var list []bool
	for s, rule := range t.Rules {
		list = append(list, from[s] && rule == states.None)
	}
	return list
}

func hasAny(list []bool) bool {
	for _, is := range list {
		if is {
			return true
		}
	}
	return false
}
