package told

import "lexer/states"

// frontsOf goes on byte by byte, from all tokens at once, through the states in which no token ends, and tells from which states each byte was taken: there are as many such steps as the distance has bytes. If there is no greatest distance, it tells that they do not end.
// From each of these states a token still comes, as Dead is left out; and who has gone through more of them than there are has been in one of them twice, and may go round again.
func frontsOf(t states.Table) ([][]bool, bool) {
	var fronts [][]bool
	front := tokens(t)
	for far := 0; far <= len(t.Next); far++ {
		next := reached(t, front)
		if first(next) < 0 {
			return fronts, true
		}
		fronts = append(fronts, front)
		front = without(next, tokens(t))
	}
	return nil, false
}

// tokens tells by state whether a token ends there.
func tokens(t states.Table) []bool {
	var list []bool
	for _, rule := range t.Rules {
		list = append(list, rule != states.None)
	}
	return list
}

// reached tells by state whether a byte leads there from one of those; of Dead it says no.
func reached(t states.Table, from []bool) []bool {
	list := make([]bool, len(t.Next))
	for s, row := range t.Next {
		if !from[s] {
			continue
		}
		for _, to := range row {
			list[to] = to != states.Dead
		}
	}
	return list
}

func without(all []bool, some []bool) []bool {
	var list []bool
	for s, is := range all {
		list = append(list, is && !some[s])
	}
	return list
}

// first tells the first state that is one of those, or -1.
func first(list []bool) int {
	for s, is := range list {
		if is {
			return s
		}
	}
	return -1
}
