package lexer

import (
	"fmt"
	"strings"
	"testing"

	"lexer/api"
)

// change: what is done to tables, and whether they are tables yet.
type change struct {
	name string
	do   func(l *layout)
	ok   bool
}

func checkChanges(t *testing.T, list []change) {
	t.Helper()
	for _, c := range list {
		l := simple()
		c.do(&l)
		if !c.ok {
			refuses(t, c.name, l.bytes())
			continue
		}
		x, e := Load(l.bytes())
		if e != api.OK || x == nil {
			t.Errorf("%s: %d", c.name, e)
			continue
		}
		if x.Bytes() != l.bytes() {
			t.Errorf("%s: other bytes", c.name)
		}
		for _, w := range []string{"", "a", "aab", "b\na", strings.Repeat("a", 80), "\x00\x01\x02\xff"} {
			if err := endsWell(x, w, len(l.acts)); err != nil {
				t.Errorf("%s: %v", c.name, err)
			}
		}
	}
}

// P10: tables that are typed here, by each field, are a lexer: its Bytes are the same again, and it tells their events.
func TestLoadOfTypedTables(t *testing.T) {
	l := simple()
	scans(t, loads(t, l.bytes()), "aab", "0:0-1, 0:1-2, NoMatch 2")
	scans(t, loads(t, l.bytes()), "a\n", "0:0-1, NoMatch 1")
	scans(t, loads(t, l.bytes()), "", "End 0")
	l.stream = 0
	scans(t, loads(t, l.bytes()), "aab", "0:0-1, 0:1-2, NoMatch 2")
	l.acts[0] = api.Skip
	scans(t, loads(t, l.bytes()), "aa", "End 2")
	l.acts[0] = api.Push
	scans(t, loads(t, l.bytes()), "aaaaa", "0:0-1, 0:1-2, 0:2-3, Overflow 3")
	l.acts[0] = api.Pop
	scans(t, loads(t, l.bytes()), "aa", "Underflow 0")

	// One or more a, a stream that looks one byte ahead.
	l = simple()
	l.next[1][1] = 1
	l.bitsTo(1)
	l.bits[1*3+1] = true
	x := loads(t, l.bytes())
	scans(t, x, "aaa", "0:0-3, End 3")
	scans(t, x, "aaab", "0:0-3, NoMatch 3")
	plays(t, x, "a -> -", "a -> -", "b -> 0:0-2", "a -> NoMatch 2", "Close -> -")
	// The same with any bits of states in which nothing ends.
	l.bits[0], l.bits[2], l.bits[3], l.bits[5], l.bits[8] = true, true, true, true, true
	plays(t, loads(t, l.bytes()), "a -> -", "a -> -", "b -> 0:0-2", "a -> NoMatch 2", "Close -> -")

	// Where a mode begins a rule ends, too: any number of a. No token is empty.
	l = simple()
	l.starts[0] = 1
	l.next[1][1] = 1
	l.bitsTo(1)
	l.bits[1*3+1] = true
	plays(t, loads(t, l.bytes()), "Close -> End 0")
	plays(t, loads(t, l.bytes()), "aa -> -", "b -> 0:0-2", "b -> NoMatch 2", "Close -> -")
	l.stream = 0
	l.bitsTo(0)
	scans(t, loads(t, l.bytes()), "aab", "0:0-2, NoMatch 2")
	scans(t, loads(t, l.bytes()), "b", "NoMatch 0")
	scans(t, loads(t, l.bytes()), "", "End 0")
}

// P10: with ErrBytes there is no lexer, and of that error all wrong bytes are.
func TestLoadOfSigns(t *testing.T) {
	for _, s := range []string{"XL", "Lx", "lX", "\x00\x00", "MX", "LY", ""} {
		l := simple()
		l.signs = s
		refuses(t, s, l.bytes())
	}
}

// P10: stream, ahead, hold.
func TestLoadOfBounds(t *testing.T) {
	var list []change
	for n := range 256 {
		list = append(list,
			change{fmt.Sprint("stream ", n), func(l *layout) { l.stream = n }, n < 2},
			change{fmt.Sprint("hold ", n), func(l *layout) { l.hold = n }, n >= 1 && n <= 64},
			change{fmt.Sprint("no stream, hold ", n), func(l *layout) { l.stream = 0; l.hold = n }, n >= 1 && n <= 64},
			change{fmt.Sprint("no stream, ahead ", n), func(l *layout) { l.stream = 0; l.ahead = n }, n == 0},
			change{fmt.Sprint("ahead without its bits ", n), func(l *layout) { l.ahead = n }, n == 0},
			change{fmt.Sprint("act ", n), func(l *layout) { l.acts[0] = n }, n < 4},
			change{fmt.Sprint("pushed ", n), func(l *layout) { l.modesTo(2, 1); l.pushed[0] = n }, n < 2},
			change{fmt.Sprint("ends ", n), func(l *layout) { l.ends[0] = n }, n < 2},
			change{fmt.Sprint("ends of eight ", n), func(l *layout) { l.modesTo(1, 8); l.ends[2] = n }, n < 9},
		)
	}
	list = append(list, change{"no stream, ahead with its bits", func(l *layout) { l.stream = 0; l.bitsTo(1) }, false})
	checkChanges(t, list)
}

// P10: the power of 3,000, at the greatest that is within it and just beyond.
func TestLoadOfAhead(t *testing.T) {
	var list []change
	for _, c := range []struct {
		kinds, ahead int
		ok           bool
	}{
		{1, 0, true}, {1, 1, true}, {1, 10, true}, {1, 11, true}, {1, 12, false}, {2, 7, true}, {2, 8, false}, {3, 5, true}, {3, 6, false}, {4, 4, true}, {4, 5, false}, {5, 4, true}, {6, 4, true}, {7, 4, false},
		{13, 3, true}, {14, 3, false}, {53, 2, true}, {54, 2, false}, {256, 0, true}, {256, 1, true}, {256, 2, false},
	} {
		list = append(list, change{fmt.Sprintf("%d kinds, %d ahead", c.kinds, c.ahead), func(l *layout) { l.kindsTo(c.kinds); l.bitsTo(c.ahead) }, c.ok})
		list = append(list, change{fmt.Sprintf("%d kinds, %d ahead, all bits", c.kinds, c.ahead), func(l *layout) {
			l.kindsTo(c.kinds)
			l.bitsTo(c.ahead)
			for i := range l.bits {
				l.bits[i] = true
			}
		}, c.ok})
	}
	for _, c := range [][2]int{{1, 31}, {1, 32}, {1, 63}, {1, 64}, {1, 65}, {1, 255}, {3, 32}, {255, 4}, {255, 8}, {255, 255}, {15, 16}, {256, 255}} {
		for _, rows := range []int{0, 1, 2} {
			list = append(list, change{fmt.Sprintf("%d kinds, %d ahead, with bits of %d rows", c[0], c[1], rows), func(l *layout) { l.kindsTo(c[0]); l.ahead = c[1]; l.bits = make([]bool, rows*l.states) }, false})
		}
	}
	checkChanges(t, list)
}

// P10: how many modes, rules, states and kinds there are; both bytes of each number count.
func TestLoadOfSizes(t *testing.T) {
	var list []change
	for _, n := range []int{0, 1, 2, 3, 4, 5, 255, 256, 257, 258, 512} {
		list = append(list, change{fmt.Sprint("modes ", n), func(l *layout) { l.modesTo(n, 1) }, n >= 1 && n <= 3})
		list = append(list, change{fmt.Sprint("modes told ", n), func(l *layout) { l.modes = n }, n == 1})
	}
	for _, n := range []int{0, 1, 2, 7, 8, 9, 10, 255, 256, 257, 264} {
		list = append(list, change{fmt.Sprint("rules ", n), func(l *layout) { l.modesTo(1, n); l.statesTo(3) }, n >= 1 && n <= 8})
		list = append(list, change{fmt.Sprint("rules told ", n), func(l *layout) { l.rules = n }, n == 1})
	}
	for _, n := range []int{0, 1, 2, 3, 7, 8, 9, 199, 200, 201, 202, 255, 256, 257, 259, 456} {
		list = append(list, change{fmt.Sprint("states ", n), func(l *layout) { l.statesTo(n) }, n >= 1 && n <= 200})
		list = append(list, change{fmt.Sprint("states told ", n), func(l *layout) { l.states = n }, n == 3})
		list = append(list, change{fmt.Sprint("states ahead ", n), func(l *layout) { l.statesTo(n); l.bitsTo(3) }, n >= 1 && n <= 200})
	}
	for _, n := range []int{1, 2, 3, 128, 255, 256} {
		list = append(list, change{fmt.Sprint("kinds ", n), func(l *layout) { l.kindsTo(n) }, true})
		list = append(list, change{fmt.Sprint("most states, kinds ", n), func(l *layout) { l.statesTo(200); l.kindsTo(n); l.bitsTo(1) }, true})
	}
	for _, n := range []int{0, 1, 3, 256, 257, 258, 512} {
		list = append(list, change{fmt.Sprint("kinds told ", n), func(l *layout) { l.kinds = n }, false})
	}
	list = append(list, change{"no kinds", func(l *layout) { l.kindsTo(1); l.kinds = 0; l.next = [][]int{nil, nil, nil} }, false})
	list = append(list, change{"257 kinds", func(l *layout) {
		l.kindsTo(256)
		l.kinds = 257
		l.next = [][]int{make([]int, 257), make([]int, 257), make([]int, 257)}
	}, false})
	checkChanges(t, list)
}

// P10: where modes begin, what rules do and which modes they push, whatever they do.
func TestLoadOfModesAndRules(t *testing.T) {
	var list []change
	for _, n := range []int{0, 1, 2, 3, 4, 255, 256, 257, 258, 0x8000, 0xffff} {
		for mode := range 3 {
			list = append(list, change{fmt.Sprintf("mode %d begins at %d", mode, n), func(l *layout) { l.modesTo(3, 1); l.starts[mode] = n }, n < 3})
		}
	}
	for _, n := range []int{199, 200, 201} {
		list = append(list, change{fmt.Sprint("begins at ", n), func(l *layout) { l.statesTo(200); l.starts[0] = n }, n < 200})
	}
	for modes := 1; modes <= 3; modes++ {
		for act := range 6 {
			for n := range 5 {
				for rule := range 2 {
					list = append(list, change{fmt.Sprintf("of %d modes: rule %d does %d with %d", modes, rule, act, n), func(l *layout) {
						l.modesTo(modes, 2)
						l.acts[rule], l.pushed[rule] = act, n
					}, act < 4 && n < modes})
				}
			}
		}
	}
	checkChanges(t, list)
}

// P10: kinds are numbered as they are met, and all are there.
func TestLoadOfKinds(t *testing.T) {
	set := func(kinds int, list ...int) func(l *layout) {
		return func(l *layout) {
			l.kindsTo(kinds)
			for b := range l.kindOf {
				l.kindOf[b] = list[min(b, len(list)-1)]
			}
		}
	}
	checkChanges(t, []change{
		{"0 alone", set(1, 0), true},
		{"0 alone of two", set(2, 0), false},
		{"1 first", set(2, 1, 0), false},
		{"1 alone", set(1, 1), false},
		{"1 alone of two", set(2, 1), false},
		{"0 1", set(2, 0, 1), true},
		{"0 1 of one", set(1, 0, 1), false},
		{"0 1 of three", set(3, 0, 1), false},
		{"0 1 0", set(2, 0, 1, 0), true},
		{"0 0 1 0 1", set(2, 0, 0, 1, 0, 1), true},
		{"0 2 1", set(3, 0, 2, 1), false},
		{"0 1 2", set(3, 0, 1, 2), true},
		{"0 1 1 0 2 0", set(3, 0, 1, 1, 0, 2, 0), true},
		{"0 1 3 2", set(4, 0, 1, 3, 2), false},
		{"0 1 3", set(3, 0, 1, 3), false},
		{"0 1 3 of four", set(4, 0, 1, 3), false},
		{"0 255", set(2, 0, 255), false},
		{"255", set(1, 255), false},
		{"the last byte alone", func(l *layout) { l.kindOf['a'] = 0; l.kindOf[255] = 1 }, true},
		{"the last byte too many", func(l *layout) { l.kindOf[255] = 2 }, false},
		{"the last byte too great", func(l *layout) { l.kindOf[255] = 3 }, false},
		{"the first byte too great", func(l *layout) { l.kindOf[0] = 1 }, false},
		{"256 of them", func(l *layout) { l.kindsTo(256) }, true},
		{"256 of them, one twice", func(l *layout) { l.kindsTo(256); l.kindOf[255] = 7 }, false},
		{"256 of them, two by turns", func(l *layout) { l.kindsTo(256); l.kindOf[254], l.kindOf[255] = 255, 254 }, false},
		{"255 of them, one twice", func(l *layout) { l.kindsTo(255); l.kindOf[255] = 7 }, true},
		{"255 of them, and one more", func(l *layout) { l.kindsTo(255); l.kindOf[255] = 255 }, false},
	})
}

// P10: states that are led to, and rules that end, of each state and kind.
func TestLoadOfStates(t *testing.T) {
	var list []change
	for s := range 3 {
		for k := range 2 {
			for _, n := range []int{0, 1, 2, 3, 4, 200, 255, 256, 257, 512, 0xffff} {
				list = append(list, change{fmt.Sprintf("state %d leads to %d", s, n), func(l *layout) { l.next[s][k] = n }, n < 3})
			}
		}
		for _, n := range []int{0, 1, 2, 3, 255} {
			list = append(list, change{fmt.Sprintf("in state %d ends %d", s, n), func(l *layout) { l.ends[s] = n }, n < 2})
		}
	}
	list = append(list, change{"the last of all leads to 199", func(l *layout) { l.statesTo(200); l.kindsTo(256); l.next[199][255] = 199 }, true})
	list = append(list, change{"the last of all leads to 200", func(l *layout) { l.statesTo(200); l.kindsTo(256); l.next[199][255] = 200 }, false})
	list = append(list, change{"in the last of all ends 9", func(l *layout) { l.statesTo(200); l.modesTo(1, 8); l.ends[199] = 9 }, false})
	list = append(list, change{"in the last of all ends 8", func(l *layout) { l.statesTo(200); l.modesTo(1, 8); l.ends[199] = 8 }, true})
	checkChanges(t, list)
}

// P10: each bit may be anything; behind the last there are noughts.
func TestLoadOfBits(t *testing.T) {
	var list []change
	for ahead := range 3 {
		for states := 1; states <= 9; states++ {
			l := simple()
			l.statesTo(states)
			l.bitsTo(ahead)
			for i := range len(l.bits) {
				list = append(list, change{fmt.Sprintf("%d states, %d ahead, bit %d", states, ahead, i), func(l *layout) { l.statesTo(states); l.bitsTo(ahead); l.bits[i] = true }, true})
			}
			for i := range (8 - len(l.bits)%8) % 8 {
				list = append(list, change{fmt.Sprintf("%d states, %d ahead, %d behind the last", states, ahead, i), func(l *layout) {
					l.statesTo(states)
					l.bitsTo(ahead)
					l.rest = make([]bool, i+1)
					l.rest[i] = true
				}, false})
			}
			list = append(list, change{fmt.Sprintf("%d states, %d ahead, a byte of bits more", states, ahead), func(l *layout) { l.statesTo(states); l.bitsTo(ahead); l.more = "\x00" }, false})
			list = append(list, change{fmt.Sprintf("%d states, %d ahead, a byte of bits less", states, ahead), func(l *layout) { l.statesTo(states); l.bitsTo(ahead); l.bits = l.bits[:(len(l.bits)-1)/8*8] }, false})
		}
	}
	checkChanges(t, list)
}

// P10: a wrong sum, in each of its bits; and of sums that are made otherwise.
func TestLoadOfSums(t *testing.T) {
	for _, b := range []string{simple().bytes(), made(t, example2, wide).Bytes()} {
		loads(t, b)
		end := len(b) - 4
		for bit := range 32 {
			c := []byte(b)
			c[end+bit/8] ^= 1 << (bit % 8)
			refuses(t, fmt.Sprint("bit of the sum ", bit), string(c))
		}
		refuses(t, "the low byte first", b[:end]+string([]byte{b[end+3], b[end+2], b[end+1], b[end]}))
		refuses(t, "not turned", b[:end]+string([]byte{^b[end], ^b[end+1], ^b[end+2], ^b[end+3]}))
		refuses(t, "no sum", b[:end]+"\x00\x00\x00\x00")
		refuses(t, "the sum of all but the first byte", b[:end]+summed(b[1:end])[end-1:])
		for i := range b {
			c := []byte(b)
			for _, turn := range []byte{1, 0x80, 0xff} {
				c[i] = b[i] ^ turn
				refuses(t, fmt.Sprint("another byte at ", i), string(c))
			}
		}
	}
}

// P10: bytes that are cut off, and bytes more behind, with the sum that was there and with a right one.
func TestLoadOfLengths(t *testing.T) {
	for _, b := range []string{simple().bytes(), made(t, example2, wide).Bytes(), made(t, example3, wide).Bytes(), made(t, `mode m; a >o a; mode n; b >n b; mode o; c >m c; d - d; e < e`, wide).Bytes()} {
		loads(t, b)
		body := b[:len(b)-4]
		for n := range b {
			refuses(t, fmt.Sprint("cut off at ", n), b[:n])
			refuses(t, fmt.Sprint("without the first ", n+1), b[n+1:])
			if n < len(body) {
				refuses(t, fmt.Sprint("cut off, with a sum, at ", n), summed(body[:n]))
			}
		}
		for _, more := range []string{"\x00", "\x01", "\x00\x00", "\x00\x00\x00\x00", b[len(b)-4:], b} {
			refuses(t, "more behind", b+more)
			refuses(t, "more behind, with a sum", summed(body+more))
			refuses(t, "more behind the sum, with a sum", summed(b+more))
			refuses(t, "more ahead", more+b)
			refuses(t, "more ahead, with a sum", summed(more+body))
		}
	}
	for n := range 600 {
		refuses(t, "noughts", strings.Repeat("\x00", n))
		refuses(t, "noughts with a sum", summed(strings.Repeat("\x00", n)))
		refuses(t, "signs", summed("LX"+strings.Repeat("\x01", n)))
	}
	refuses(t, "a specification", lines(example2))
}
