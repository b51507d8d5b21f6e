// Package states: the kinds of words of a mode (P6), of any bytes: its states.
package states

import "lexer/words"

// Dead is the state of the words from which no token can come any more.
const Dead = 0

// None is told instead of a rule where there is none.
const None = words.None

// Table: what comes out if a byte is put behind words of a state, and which rule of the mode these have.
type Table struct {
	Next  [][]int // by state and byte: a state
	Rules []int   // by state: the rule of its words, from 0 on in each mode, or None
	Start int     // the state of the empty word
}

// Make finds the states of a mode, unless there are more than so many.
func Make(k *words.Kinds, most int) (Table, bool) {
	m := &maker{kinds: k, most: most}
	m.addWhole()
	for kind := range k.Next {
		if kind != k.Dead && !m.full {
			m.fill(kind)
		}
	}
	if m.full {
		return Table{}, false
	}
	m.table.Start = m.of[k.Start]
	return m.table, true
}

// maker lays the states of whole characters first, and behind them those of the words that end within a character.
type maker struct {
	kinds *words.Kinds
	most  int
	full  bool // whether there are more states than that
	table Table
	of    []int // by kind of whole characters: its state
}

func (m *maker) addWhole() {
	m.add(None)
	for kind := range m.kinds.Next {
		if kind == m.kinds.Dead {
			m.of = append(m.of, Dead)
			continue
		}
		s := m.add(m.kinds.Rules[kind])
		m.of = append(m.of, s)
	}
}

// add lays a state down that leads nowhere yet.
func (m *maker) add(rule int) int {
	if len(m.table.Next) >= m.most {
		m.full = true
		return Dead
	}
	m.table.Next = append(m.table.Next, make([]int, 256))
	m.table.Rules = append(m.table.Rules, rule)
	return len(m.table.Next) - 1
}

// fill: bytes that begin no character, and those that no character has, lead to Dead.
func (m *maker) fill(kind int) {
	for b := 0; b < 0x80; b++ {
		to := m.behind(kind, b)
		m.lead(kind, b, to)
	}
	for b := 0xc2; b <= 0xdf; b++ {
		to := m.inside(kind, (b-0xc0)*64, 1)
		m.lead(kind, b, to)
	}
	for b := 0xe0; b <= 0xef; b++ {
		to := m.inside(kind, (b-0xe0)*4096, 64)
		m.lead(kind, b, to)
	}
	for b := 0xf0; b <= 0xf4; b++ {
		to := m.inside(kind, (b-0xf0)*262144, 4096)
		m.lead(kind, b, to)
	}
}

func (m *maker) lead(kind int, b int, to int) {
	m.table.Next[m.of[kind]][b] = to
}

// behind tells the state behind a word of the kind and a character.
func (m *maker) behind(kind int, c int) int {
	l := m.kinds.Areas.Letter(c)
	return m.of[m.kinds.Next[kind][l]]
}
