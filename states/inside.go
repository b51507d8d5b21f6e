package states

// inside tells the state behind a word of the kind and the first bytes of characters: of the 64 times step ones from low on.
// Each next byte parts them again, so that step is 1, where one byte is left, 64 or 4096.
func (m *maker) inside(kind int, low int, step int) int {
	if low >= least(step) && m.kinds.Areas.Alike(low, low+64*step-1) {
		return m.even(m.behind(kind, low), step)
	}
	var next [64]int
	for i := range next {
		c := low + i*step
		if c < least(step) {
			next[i] = Dead
		} else if step == 1 {
			next[i] = m.behind(kind, c)
		} else {
			next[i] = m.inside(kind, c, step/64)
		}
	}
	return m.with(next)
}

// least: the characters below that are written in fewer bytes, and in these alone.
func least(step int) int {
	switch step {
	case 64:
		return 0x800
	case 4096:
		return 0x10000
	}
	return 0
}

// even tells the state from which all characters lead to the same state.
func (m *maker) even(to int, step int) int {
	for ; step > 0; step /= 64 {
		var next [64]int
		for i := range next {
			next[i] = to
		}
		to = m.with(next)
	}
	return to
}

// with tells the state that the bytes from 80 to bf lead on from like that, and all others to Dead; it is a new one, if there is none yet. Behind whole characters these bytes lead to Dead.
func (m *maker) with(next [64]int) int {
	if next == [64]int{} {
		return Dead
	}
	for s, row := range m.table.Next {
		if leadsOn(row, next) {
			return s
		}
	}
	s := m.add(None)
	if s == Dead {
		return Dead
	}
	for i, to := range next {
		m.table.Next[s][0x80+i] = to
	}
	return s
}

func leadsOn(row []int, next [64]int) bool {
	for i, to := range next {
		if row[0x80+i] != to {
			return false
		}
	}
	return true
}
