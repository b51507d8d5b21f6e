package tables

import (
	"fmt"
	"testing"

	"lexer/states"
)

// mode: of so many states and rules, with edges "from byte to"; ends tells by state the rule.
func mode(size int, rules int, start int, ends map[int]int, edges ...string) states.Mode {
	m := states.Mode{Empty: make([]bool, rules), Table: states.Table{Start: start}}
	for s := 0; s < size; s++ {
		m.Table.Next = append(m.Table.Next, make([]int, 256))
		rule, ok := ends[s]
		if !ok {
			rule = states.None
		}
		m.Table.Rules = append(m.Table.Rules, rule)
	}
	for _, e := range edges {
		var from, to int
		var b rune
		fmt.Sscanf(e, "%d %c %d", &from, &b, &to)
		m.Table.Next[from][b] = to
	}
	return m
}

var (
	one = mode(5, 2, 1, map[int]int{2: 0, 4: 1}, "1 a 2", "2 b 3", "3 b 3", "3 a 4")
	two = mode(3, 1, 2, map[int]int{1: 0}, "2 c 1", "2 b 1")
)

// States and rules are numbered on from mode to mode, and kinds of bytes are those of all modes.
func TestMake(t *testing.T) {
	x := Make([]states.Mode{one, two}, []int{0, 1, 2}, []int{0, 0, 1}, 7)
	if got := fmt.Sprint(x.Stream, x.Ahead, x.Hold, x.Starts, x.Acts, x.Pushed, x.Count); got != "false 0 7 [1 7] [0 1 2] [0 0 1] 4" {
		t.Error(got)
	}
	if got := fmt.Sprint(x.Next); got != "[[0 0 0 0] [0 2 0 0] [0 0 3 0] [0 4 3 0] [0 0 0 0] [5 5 5 5] [5 5 5 5] [5 5 6 6]]" {
		t.Error(got)
	}
	if got := fmt.Sprint(x.Ends); got != "[-1 -1 0 -1 1 -1 2 -1]" {
		t.Error(got)
	}
	if got := fmt.Sprint(x.Live); got != "[false true true true true false true true]" {
		t.Error(got)
	}
	for b := 0; b < 256; b++ {
		want := map[int]int{'a': 1, 'b': 2, 'c': 3}[b]
		if x.Kinds[b] != want {
			t.Errorf("byte %d: kind %d", b, x.Kinds[b])
		}
	}
	for s := range x.Next {
		if x.Further(0, 3) != 0 || x.Longer(0, s) {
			t.Errorf("state %d: something lies ahead", s)
		}
	}
	if x.Step(1, 'a') != 2 || x.Step(1, 'b') != 0 || x.Step(7, 'c') != 6 || x.Step(7, 'z') != 5 {
		t.Error("a byte leads elsewhere")
	}
}

// Lists that are handed in are not kept.
func TestMakeKeepsNoLists(t *testing.T) {
	acts, pushed := []int{0, 1}, []int{0, 1}
	x := Make([]states.Mode{one}, acts, pushed, 1)
	acts[0], pushed[1] = 7, 7
	if got := fmt.Sprint(x.Acts, x.Pushed); got != "[0 1] [0 1]" {
		t.Error(got)
	}
}

// A token may be far ahead of a live state, against the order of the states.
func TestLive(t *testing.T) {
	var edges []string
	for s := 3; s < 20; s++ {
		edges = append(edges, fmt.Sprintf("%d a %d", s, s-1), fmt.Sprintf("%d b 20", s))
	}
	x := Make([]states.Mode{mode(22, 1, 19, map[int]int{2: 0}, append(edges, "20 a 20", "21 a 21")...)}, []int{0}, []int{0}, 1)
	for s, live := range x.Live {
		if live != (s >= 2 && s < 20) {
			t.Errorf("state %d: %v", s, live)
		}
	}
}

// later: does a token end behind one of the first digits, of which each is a kind, or the text's end?
func later(x *Tables, s int, digits []int) bool {
	for _, d := range digits {
		if d == x.Count {
			return false
		}
		s = x.Next[s][d]
		if x.Ends[s] != None {
			return true
		}
	}
	return false
}

// What lies ahead, of 0 to 5 digits: all of them, and all states.
func TestLonger(t *testing.T) {
	for far := 0; far <= 5; far++ {
		x := Make([]states.Mode{one, two}, []int{0, 0, 0}, []int{0, 0, 0}, 1)
		x.MakeStream(far)
		if !x.Stream || x.Ahead != far || x.End() != 4 {
			t.Errorf("%d ahead: %v %d %d", far, x.Stream, x.Ahead, x.End())
		}
		digits := make([]int, far)
		seen := map[int]bool{}
		yes := 0
		for {
			ahead := 0
			for _, d := range digits {
				ahead = x.Further(ahead, d)
			}
			seen[ahead] = true
			for s := range x.Next {
				if x.Longer(ahead, s) != later(x, s, digits) {
					t.Fatalf("%v ahead of state %d", digits, s)
				}
				if x.Longer(ahead, s) {
					yes++
				}
			}
			if !count(digits, x.Count) {
				break
			}
		}
		rows := 1
		for range far {
			rows *= 5
		}
		if len(seen) != rows || (yes > 0) != (far > 0) {
			t.Errorf("%d ahead: %d rows, %d bits", far, len(seen), yes)
		}
	}
}

// count goes on to the next digits, each 0 to most; false at the end.
func count(digits []int, most int) bool {
	for i := range digits {
		if digits[i] < most {
			digits[i]++
			return true
		}
		digits[i] = 0
	}
	return false
}

// What has gone by does not matter any more.
func TestFurther(t *testing.T) {
	x := Make([]states.Mode{one, two}, []int{0, 0, 0}, []int{0, 0, 0}, 1)
	x.MakeStream(2)
	for _, before := range []int{0, 1, 7, 24} {
		if got := x.Further(x.Further(before, 3), 4); got != 3*5+4 {
			t.Errorf("behind %d: %d", before, got)
		}
	}
	x.MakeStream(0)
	if x.Further(0, 3) != 0 || x.Further(0, 4) != 0 {
		t.Error("nothing lies ahead")
	}
}

func TestPacked(t *testing.T) {
	for n := 0; n < 40; n++ {
		list := make([]bool, n)
		for i := range list {
			list[i] = i%3 == 0 || i%8 == 7
		}
		bits := packed(list)
		if len(bits) != (n+7)/8 {
			t.Errorf("%d bits: %d bytes", n, len(bits))
		}
		for i := 0; i < 8*len(bits); i++ {
			if (bits[i/8]>>(i%8)&1 == 1) != (i < n && list[i]) {
				t.Errorf("bit %d of %d", i, n)
			}
		}
	}
}
