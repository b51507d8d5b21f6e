package tables

import "lexer/api"

// What lies ahead are the next Ahead bytes, as a number: their kinds are its digits, the first the highest, and the text's end is the digit above all kinds.

// Rows tells how many ways there are that may lie ahead; if there are too many of them, any number that is too great.
func Rows(kinds int, ahead int) int {
	rows := 1
	for i := 0; i < ahead && rows <= api.MaxExt; i++ {
		rows *= kinds + 1
	}
	return rows
}

// End tells the digit of the text's end.
func (t *Tables) End() int {
	return t.Count
}

// Further tells what lies ahead if the first digit goes and this one comes last.
func (t *Tables) Further(ahead int, digit int) int {
	return (ahead*(t.Count+1) + digit) % t.rows
}

// Longer: with that ahead, will a longer token end within it than the one that ends in the state?
func (t *Tables) Longer(ahead int, s int) bool {
	i := ahead*len(t.Next) + s
	return t.longer[i/8]>>(i%8)&1 == 1
}

func (t *Tables) setAhead(ahead int) {
	t.Ahead = ahead
	t.rows = Rows(t.Count, ahead)
	list := make([]bool, len(t.Next))
	for i := 0; i < ahead; i++ {
		list = t.withOneMore(list)
	}
	t.longer = packed(list)
}

// withOneMore puts one digit more ahead of all that may lie ahead.
func (t *Tables) withOneMore(list []bool) []bool {
	var more []bool
	for digit := 0; digit <= t.Count; digit++ {
		for from := 0; from < len(list); from += len(t.Next) {
			rest := list[from : from+len(t.Next)]
			for s := range t.Next {
				more = append(more, t.willEnd(s, digit, rest))
			}
		}
	}
	return more
}

// willEnd: behind the state and the digit, does a token end there or later on? The rest tells by state whether it does so later on.
func (t *Tables) willEnd(s int, digit int, rest []bool) bool {
	if digit == t.End() {
		return false
	}
	to := t.Next[s][digit]
	return t.Ends[to] != None || rest[to]
}

// packed lays eight bits into a byte, the first the lowest.
func packed(list []bool) []byte {
	bits := make([]byte, (len(list)+7)/8)
	for i, is := range list {
		if is {
			bits[i/8] |= 1 << (i % 8)
		}
	}
	return bits
}
