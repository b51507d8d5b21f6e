package told

import (
	"fmt"
	"testing"

	"lexer/states"
)

// table: of edges "from byte to"; the tokens' states have rule 0, unless another is told.
func table(size int, tokens map[int]int, edges ...string) states.Table {
	t := states.Table{Start: 1}
	for s := 0; s < size; s++ {
		t.Next = append(t.Next, make([]int, 256))
		rule, ok := tokens[s]
		if !ok {
			rule = states.None
		}
		t.Rules = append(t.Rules, rule)
	}
	for _, e := range edges {
		var from, to int
		var b rune
		fmt.Sscanf(e, "%d %c %d", &from, &b, &to)
		t.Next[from][b] = to
	}
	return t
}

func TestDistance(t *testing.T) {
	one := map[int]int{2: 0}
	two := map[int]int{2: 0, 3: 1}
	for i, c := range []struct {
		table states.Table
		want  int
	}{
		{table(1, nil), 0},
		{table(2, nil), 0},
		{table(3, one, "1 a 2"), 0},
		{table(4, two, "1 a 2", "1 b 3"), 0},
		{table(3, one, "1 a 2", "2 a 2"), 1},
		{table(4, two, "1 a 2", "2 a 3"), 1},
		{table(4, two, "1 a 2", "2 b 3", "3 c 2"), 1},
		{table(5, two, "1 a 2", "2 a 4", "4 a 3"), 2},
		{table(5, two, "1 a 2", "2 a 4", "4 a 3", "2 b 3"), 2},
		{table(6, two, "1 a 2", "2 a 4", "4 a 5", "5 a 3", "2 b 5"), 3},
		{table(6, two, "1 a 2", "2 a 4", "4 a 5", "5 a 3", "4 b 3"), 3},
		{table(6, two, "1 a 2", "2 a 4", "4 a 3", "3 a 5", "5 a 2"), 2},
		// A way round ahead of the first token, or through tokens, is no distance.
		{table(4, two, "1 a 1", "1 b 2", "2 a 3"), 1},
		{table(5, two, "1 a 4", "4 a 1", "1 b 2"), 0},
		{table(5, two, "1 a 4", "4 a 4", "4 b 2", "2 b 3"), 1},
		// A way round between two tokens.
		{table(5, two, "1 a 2", "2 a 4", "4 a 4", "4 b 3"), -1},
		{table(6, two, "1 a 2", "2 a 4", "4 a 5", "5 a 4", "5 b 3"), -1},
		{table(6, two, "1 a 2", "2 a 4", "4 a 5", "5 a 5", "5 b 3", "2 c 3"), -1},
		{table(4, one, "1 a 2", "2 a 1"), 2},
		{table(4, one, "1 a 2", "2 a 1", "1 b 1"), -1},
	} {
		if got := distance(c.table); got != c.want {
			t.Errorf("table %d: %d, want %d", i, got, c.want)
		}
	}
}

// A long way through all states that there are.
func TestLongDistances(t *testing.T) {
	for size := 4; size < 60; size++ {
		way := table(size, map[int]int{2: 0, 3: 1}, "1 a 2")
		at := 2
		for s := 4; s < size; s++ {
			way.Next[at]['a'] = s
			at = s
		}
		way.Next[at]['a'] = 3
		if got := distance(way); got != size-3 {
			t.Errorf("%d states: %d", size, got)
		}
		if size > 4 {
			way.Next[at]['b'] = at
			if got := distance(way); got != -1 {
				t.Errorf("%d states, round the last: %d", size, got)
			}
		}
	}
}

func TestFurther(t *testing.T) {
	for _, c := range [][3]int{{0, 0, 0}, {0, 1, 1}, {5, 2, 5}, {2, 5, 5}, {-1, 5, -1}, {5, -1, -1}, {-1, -1, -1}, {0, -1, -1}, {-1, 0, -1}} {
		if got := further(c[0], c[1]); got != c[2] {
			t.Errorf("%v: %d", c, got)
		}
	}
}

// One more than the kinds, to the power of the distance: at most 3,000.
func TestIsStream(t *testing.T) {
	for _, c := range []struct {
		ahead, kinds int
		want         bool
	}{
		{0, 1, true}, {0, 256, true}, {1, 256, true}, {1, 1, true}, {2, 53, true}, {2, 54, false}, {2, 256, false}, {3, 13, true}, {3, 14, false}, {4, 6, true}, {4, 7, false},
		{5, 3, true}, {5, 4, false}, {11, 1, true}, {12, 1, false}, {7, 2, true}, {8, 2, false}, {64, 1, false}, {1000, 256, false}, {1 << 40, 256, false}, {-1, 1, false}, {-1, 256, false},
	} {
		if got := isStream(c.ahead, c.kinds); got != c.want {
			t.Errorf("ahead %d, %d kinds: %v", c.ahead, c.kinds, got)
		}
	}
}

func TestByteKinds(t *testing.T) {
	one := Mode{Table: table(3, map[int]int{2: 0}, "1 a 2", "1 b 2")}
	two := Mode{Table: table(3, map[int]int{2: 0}, "1 b 2", "1 c 2")}
	deep := Mode{Table: table(4, map[int]int{2: 0}, "1 a 2", "1 b 2", "2 a 3", "3 z 2")}
	for _, c := range []struct {
		modes []Mode
		want  int
	}{
		{[]Mode{{Table: table(1, nil)}}, 1}, {[]Mode{one}, 2}, {[]Mode{one, one}, 2}, {[]Mode{one, two}, 4}, {[]Mode{two, one}, 4}, {[]Mode{deep}, 4}, {[]Mode{one, {Table: table(1, nil)}, two, deep}, 5},
	} {
		if got := byteKinds(c.modes); got != c.want {
			t.Errorf("%d modes: %d kinds, want %d", len(c.modes), got, c.want)
		}
	}
	all := table(257, nil)
	for b := range all.Next[0] {
		all.Next[1][b] = b
	}
	if got := byteKinds([]Mode{one, {Table: all}}); got != 256 {
		t.Errorf("all bytes differ: %d", got)
	}
}

func TestReport(t *testing.T) {
	one := Mode{Table: table(4, map[int]int{2: 0, 3: 2}, "1 a 2", "2 a 3"), Empty: []bool{false, true, false}}
	two := Mode{Table: table(5, map[int]int{2: 0, 3: 0}, "1 a 2", "2 a 4", "4 a 3"), Empty: []bool{true}}
	r := Report([]Mode{one, two}, false)
	if got := fmt.Sprint(r); got != "{[{4 1     } {5 2     }] [false true false false] [false true false true] 2 true 0}" {
		t.Error(got)
	}
	if Report([]Mode{one, two}, true).Stream {
		t.Error("a stream, though it is not wanted")
	}
	endless := Mode{Table: table(4, map[int]int{2: 0}, "1 a 2", "2 a 3", "3 a 3", "3 b 2"), Empty: []bool{false}}
	for _, modes := range [][]Mode{{endless, one}, {one, endless}, {one, endless, two}} {
		if r := Report(modes, false); r.Ahead != -1 || r.Stream {
			t.Errorf("ahead %d, stream: %v", r.Ahead, r.Stream)
		}
	}
}
