package run

import "lexer/api"

// queue: bytes in the order in which they came, at most as many as may be held.
type queue struct {
	bytes [api.MaxHold]byte // a ring
	first int
	count int
}

// add: there must be room.
func (q *queue) add(b byte) {
	q.bytes[(q.first+q.count)%api.MaxHold] = b
	q.count++
}

// at tells the byte behind so many others.
func (q *queue) at(i int) byte {
	return q.bytes[(q.first+i)%api.MaxHold]
}

// drop takes the first ones away.
func (q *queue) drop(n int) {
	q.first = (q.first + n) % api.MaxHold
	q.count -= n
}

// place: of a byte, in the text and in its lines.
type place struct {
	at, line, col int
}

// behind tells the place of what follows the byte that stands here.
func (p place) behind(b byte) place {
	if b == '\n' {
		return place{at: p.at + 1, line: p.line + 1, col: 1}
	}
	return place{at: p.at + 1, line: p.line, col: p.col + 1}
}
