package told

import "lexer/states"

// pair tells two tokens as far from each other as there are fronts; none, if there is no front. It goes back from where the last front leads: no token is further, so one ends there.
func pair(t states.Table, fronts [][]bool) (string, string) {
	if len(fronts) == 0 {
		return "", ""
	}
	ends := reached(t, fronts[len(fronts)-1])
	at := first(ends)
	rest := ""
	for i := len(fronts) - 1; i >= 0; i-- {
		s, b := leadsTo(t, fronts[i], at)
		rest = sign(b) + rest
		at = s
	}
	from := wordTo(t, at)
	return from, from + rest
}

// leadsTo tells one of those states from which a byte leads to that one, and the byte.
func leadsTo(t states.Table, some []bool, to int) (int, int) {
	for s, row := range t.Next {
		for b, n := range row {
			if some[s] && n == to {
				return s, b
			}
		}
	}
	return states.Dead, 0
}

// roundabout tells a token; a way from it, on which no token ends, to a state that one may leave and come back to, without a token too; the way round; and the way from there to the next token.
func roundabout(t states.Table) (string, string, string, string) {
	ends := tokens(t)
	open := without(living(t), ends)
	rounds := roundsOf(t, open)
	for s, is := range ends {
		if !is {
			continue
		}
		x, at := way(t, s, open, rounds)
		if at < 0 {
			continue
		}
		from := wordTo(t, s)
		y, _ := way(t, at, open, only(t, at))
		z, _ := way(t, at, open, ends)
		return from, x, y, z
	}
	return "", "", "", ""
}

// roundsOf tells of those states from which of them a way through the others leads back.
func roundsOf(t states.Table, open []bool) []bool {
	var list []bool
	for s, is := range open {
		list = append(list, is && comesBack(t, s, open))
	}
	return list
}

func comesBack(t states.Table, s int, open []bool) bool {
	_, at := way(t, s, open, only(t, s))
	return at >= 0
}

// wordTo tells a word of the state, one byte long at least.
func wordTo(t states.Table, s int) string {
	word, _ := way(t, t.Start, living(t), only(t, s))
	return word
}

// way tells one of the shortest words, of one byte at least, that lead from the state to a goal, and between through the open states alone; and that goal, or -1 if there is no way.
func way(t states.Table, from int, open []bool, goals []bool) (string, int) {
	seen := make([]bool, len(t.Next))
	words := make([]string, len(t.Next))
	list := []int{from}
	for i := 0; i < len(list); i++ {
		s := list[i]
		for b, to := range t.Next[s] {
			if goals[to] {
				return words[s] + sign(b), to
			}
			if open[to] && !seen[to] && to != from {
				seen[to] = true
				words[to] = words[s] + sign(b)
				list = append(list, to)
			}
		}
	}
	return "", -1
}

func living(t states.Table) []bool {
	var list []bool
	for s := range t.Next {
		list = append(list, s != states.Dead)
	}
	return list
}

func only(t states.Table, one int) []bool {
	var list []bool
	for s := range t.Next {
		list = append(list, s == one)
	}
	return list
}

func sign(b int) string {
	return string([]byte{byte(b)})
}
