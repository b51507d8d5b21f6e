package told

import (
	"fmt"
	"strings"
	"testing"

	"lexer/states"
)

// table: of edges "from byte to"; the tokens' states have rule 0, unless another is told.
func table(size int, tokens map[int]int, edges ...string) states.Table {
	t := states.Table{Start: 1}
	for s := 0; s < size; s++ {
		t.Next = append(t.Next, make([]int, 256))
		rule, ok := tokens[s]
		if !ok {
			rule = states.None
		}
		t.Rules = append(t.Rules, rule)
	}
	for _, e := range edges {
		var from, to int
		var b rune
		fmt.Sscanf(e, "%d %c %d", &from, &b, &to)
		t.Next[from][b] = to
	}
	return t
}

func TestDistance(t *testing.T) {
	one := map[int]int{2: 0}
	two := map[int]int{2: 0, 3: 1}
	for i, c := range []struct {
		table states.Table
		want  int
	}{
		{table(1, nil), 0},
		{table(2, nil), 0},
		{table(3, one, "1 a 2"), 0},
		{table(4, two, "1 a 2", "1 b 3"), 0},
		{table(3, one, "1 a 2", "2 a 2"), 1},
		{table(4, two, "1 a 2", "2 a 3"), 1},
		{table(4, two, "1 a 2", "2 b 3", "3 c 2"), 1},
		{table(5, two, "1 a 2", "2 a 4", "4 a 3"), 2},
		{table(5, two, "1 a 2", "2 a 4", "4 a 3", "2 b 3"), 2},
		{table(6, two, "1 a 2", "2 a 4", "4 a 5", "5 a 3", "2 b 5"), 3},
		{table(6, two, "1 a 2", "2 a 4", "4 a 5", "5 a 3", "4 b 3"), 3},
		{table(6, two, "1 a 2", "2 a 4", "4 a 3", "3 a 5", "5 a 2"), 2},
		// A way round ahead of the first token, or through tokens, is no distance.
		{table(4, two, "1 a 1", "1 b 2", "2 a 3"), 1},
		{table(5, two, "1 a 4", "4 a 1", "1 b 2"), 0},
		{table(5, two, "1 a 4", "4 a 4", "4 b 2", "2 b 3"), 1},
		// A way round between two tokens.
		{table(5, two, "1 a 2", "2 a 4", "4 a 4", "4 b 3"), -1},
		{table(6, two, "1 a 2", "2 a 4", "4 a 5", "5 a 4", "5 b 3"), -1},
		{table(6, two, "1 a 2", "2 a 4", "4 a 5", "5 a 5", "5 b 3", "2 c 3"), -1},
		{table(4, one, "1 a 2", "2 a 1"), 2},
		{table(4, one, "1 a 2", "2 a 1", "1 b 1"), -1},
	} {
		if got := tellMode(c.table); got.Distance != c.want {
			t.Errorf("table %d: %d, want %d", i, got.Distance, c.want)
		}
		showsDistance(t, c.table)
	}
}

// A long way through all states that there are.
func TestLongDistances(t *testing.T) {
	for size := 4; size < 60; size++ {
		way := table(size, map[int]int{2: 0, 3: 1}, "1 a 2")
		at := 2
		for s := 4; s < size; s++ {
			way.Next[at]['a'] = s
			at = s
		}
		way.Next[at]['a'] = 3
		if got := tellMode(way); got.Distance != size-3 {
			t.Errorf("%d states: %d", size, got.Distance)
		}
		showsDistance(t, way)
		if size > 4 {
			way.Next[at]['b'] = at
			if got := tellMode(way); got.Distance != -1 {
				t.Errorf("%d states, round the last: %d", size, got.Distance)
			}
			showsDistance(t, way)
		}
	}
}

// tokensAt: how long the words are that begin this one and have a rule.
func tokensAt(t states.Table, word string) []int {
	var list []int
	at := t.Start
	for i := 0; i < len(word); i++ {
		at = t.Next[at][word[i]]
		if t.Rules[at] != states.None {
			list = append(list, i+1)
		}
	}
	return list
}

// isPair: both are tokens, the first begins the second, and no word between is a token.
func isPair(t states.Table, from string, to string) bool {
	list := tokensAt(t, to)
	n := len(list)
	return strings.HasPrefix(to, from) && n >= 2 && list[n-1] == len(to) && list[n-2] == len(from)
}

// showsDistance: the words show the distance, and those that are not wanted are empty.
func showsDistance(t *testing.T, table states.Table) {
	t.Helper()
	m := tellMode(table)
	switch {
	case m.Distance == 0:
		if m.From+m.To+m.X+m.Y+m.Z != "" {
			t.Errorf("no distance: %+v", m)
		}
	case m.Distance > 0:
		if m.X+m.Y+m.Z != "" || len(m.To)-len(m.From) != m.Distance || !isPair(table, m.From, m.To) {
			t.Errorf("%+v", m)
		}
	default:
		if m.To != "" || m.Y == "" {
			t.Errorf("%+v", m)
		}
		for n := 0; n < 5; n++ {
			if to := m.From + m.X + strings.Repeat(m.Y, n) + m.Z; !isPair(table, m.From, to) {
				t.Errorf("%+v: %q", m, to)
			}
		}
	}
}

// The round way may lie behind another token than the first one, and be reached by other ways than the shortest.
func TestRoundabouts(t *testing.T) {
	two := map[int]int{2: 0, 3: 1}
	for _, way := range []states.Table{
		table(6, two, "1 a 2", "2 a 3", "3 a 4", "4 a 5", "5 a 4", "5 b 3"),
		table(8, two, "1 a 2", "2 a 4", "4 b 3", "4 a 5", "5 a 6", "6 a 7", "7 a 5", "7 z 2"),
		table(7, two, "1 z 4", "4 z 1", "1 a 2", "2 a 5", "5 a 6", "6 c 5", "6 b 3"),
		table(7, two, "1 a 3", "3 b 2", "2 a 4", "4 b 5", "5 c 6", "6 d 4", "5 e 3"),
		table(7, two, "1 a 4", "4 a 4", "4 b 3", "3 b 2", "2 a 1"),
	} {
		if m := tellMode(way); m.Distance != -1 {
			t.Errorf("%+v", m)
		}
		showsDistance(t, way)
	}
}

func TestFurther(t *testing.T) {
	for _, c := range [][3]int{{0, 0, 0}, {0, 1, 1}, {5, 2, 5}, {2, 5, 5}, {-1, 5, -1}, {5, -1, -1}, {-1, -1, -1}, {0, -1, -1}, {-1, 0, -1}} {
		if got := further(c[0], c[1]); got != c[2] {
			t.Errorf("%v: %d", c, got)
		}
	}
}

// One more than the kinds, to the power of the distance: at most 3,000.
func TestIsStream(t *testing.T) {
	for _, c := range []struct {
		ahead, kinds int
		want         bool
	}{
		{0, 1, true}, {0, 256, true}, {1, 256, true}, {1, 1, true}, {2, 53, true}, {2, 54, false}, {2, 256, false}, {3, 13, true}, {3, 14, false}, {4, 6, true}, {4, 7, false},
		{5, 3, true}, {5, 4, false}, {11, 1, true}, {12, 1, false}, {7, 2, true}, {8, 2, false}, {64, 1, false}, {1000, 256, false}, {1 << 40, 256, false}, {-1, 1, false}, {-1, 256, false},
	} {
		if got := isStream(c.ahead, c.kinds); got != c.want {
			t.Errorf("ahead %d, %d kinds: %v", c.ahead, c.kinds, got)
		}
	}
}

func TestReport(t *testing.T) {
	one := states.Mode{Table: table(4, map[int]int{2: 0, 3: 2}, "1 a 2", "2 a 3"), Empty: []bool{false, true, false}}
	two := states.Mode{Table: table(5, map[int]int{2: 0, 3: 0}, "1 a 2", "2 a 4", "4 a 3"), Empty: []bool{true}}
	r := Report([]states.Mode{one, two}, 2, false)
	if got := fmt.Sprint(r); got != "{[{4 1 a aa   } {5 2 a aaa   }] [false true false false] [false true false true] 2 true 0}" {
		t.Error(got)
	}
	if Report([]states.Mode{one, two}, 2, true).Stream {
		t.Error("a stream, though it is not wanted")
	}
	endless := states.Mode{Table: table(4, map[int]int{2: 0}, "1 a 2", "2 a 3", "3 a 3", "3 b 2"), Empty: []bool{false}}
	for _, modes := range [][]states.Mode{{endless, one}, {one, endless}, {one, endless, two}} {
		if r := Report(modes, 2, false); r.Ahead != -1 || r.Stream {
			t.Errorf("ahead %d, stream: %v", r.Ahead, r.Stream)
		}
	}
}
