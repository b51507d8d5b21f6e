package chars

// Areas part all numbers from 0 on by the sets that they lie in. Numbers that lie in the same ones are of one letter.
type Areas struct {
	lows    []int // where each area begins, in order; the last has no end
	letters []int // by area
	Sets    []int // by letter: the sets that its characters lie in, as bits
}

// Part makes the areas of the sets.
func Part(sets []Set) Areas {
	b := bordersOf(sets)
	a := Areas{}
	for _, low := range b.list {
		l := a.letterOf(setsOf(sets, low))
		last := len(a.letters) - 1
		if last < 0 || a.letters[last] != l {
			a.lows = append(a.lows, low)
			a.letters = append(a.letters, l)
		}
	}
	return a
}

// borders: where a set may begin or end, in order.
type borders struct {
	list []int
}

// bordersOf tells those of the numbers that are no characters too, as these lie in no set.
func bordersOf(sets []Set) borders {
	b := borders{list: []int{0, 0xd800, 0xe000, 0x110000}}
	for _, s := range sets {
		for _, r := range s.Ranges {
			b.add(r.Low)
			b.add(r.High + 1)
		}
	}
	return b
}

func (b *borders) add(n int) {
	b.list = append(b.list, n)
	for i := len(b.list) - 1; i > 0 && b.list[i-1] > n; i-- {
		b.list[i] = b.list[i-1]
		b.list[i-1] = n
	}
}

func setsOf(sets []Set, c int) int {
	bits := 0
	for i, s := range sets {
		if s.Has(c) {
			bits |= 1 << i
		}
	}
	return bits
}

func (a *Areas) letterOf(sets int) int {
	for l, s := range a.Sets {
		if s == sets {
			return l
		}
	}
	a.Sets = append(a.Sets, sets)
	return len(a.Sets) - 1
}

// Letter tells the letter of a number, which is not negative.
func (a Areas) Letter(n int) int {
	i := a.area(n)
	return a.letters[i]
}

// Alike tells whether all numbers from the first to the last are of one letter.
func (a Areas) Alike(first int, last int) bool {
	i := a.area(first)
	j := a.area(last)
	return i == j
}

// area halves the list again and again, as there is one call for each byte of each state.
func (a Areas) area(n int) int {
	low := 0
	high := len(a.lows)
	for high-low > 1 {
		middle := (low + high) / 2
		if a.lows[middle] <= n {
			low = middle
		} else {
			high = middle
		}
	}
	return low
}
