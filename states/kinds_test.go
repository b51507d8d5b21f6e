package states

import (
	"fmt"
	"testing"
)

// leading: a mode of so many states and of edges "from byte to".
func leading(size int, edges ...string) Mode {
	m := Mode{}
	for s := 0; s < size; s++ {
		m.Table.Next = append(m.Table.Next, make([]int, 256))
	}
	for _, e := range edges {
		var from, to int
		var b rune
		fmt.Sscanf(e, "%d %c %d", &from, &b, &to)
		m.Table.Next[from][b] = to
	}
	return m
}

// P7: how many kinds of bytes there are, and those of the bytes a to d and z.
func TestKinds(t *testing.T) {
	one := leading(3, "1 a 2", "1 b 2")
	two := leading(3, "1 b 2", "1 c 2")
	deep := leading(4, "1 a 2", "1 b 2", "2 a 3", "3 z 2")
	for _, c := range []struct {
		modes []Mode
		want  string
	}{
		{[]Mode{leading(1)}, "1: 0 0 0 0 0"},
		{[]Mode{one}, "2: 1 1 0 0 0"},
		{[]Mode{one, one}, "2: 1 1 0 0 0"},
		{[]Mode{one, two}, "4: 1 2 3 0 0"},
		{[]Mode{two, one}, "4: 1 2 3 0 0"},
		{[]Mode{deep}, "4: 1 2 0 0 3"},
		{[]Mode{one, leading(1), two, deep}, "5: 1 2 3 0 4"},
		{[]Mode{leading(2, "1 \x00 1", "1 a 1", "0 \x01 1")}, "3: 0 2 2 2 2"},
	} {
		list, n := Kinds(c.modes)
		if got := fmt.Sprint(n, ": ", list['a'], list['b'], list['c'], list['d'], list['z']); got != c.want || len(list) != 256 {
			t.Errorf("%d modes: %s, want %s", len(c.modes), got, c.want)
		}
	}
	all := leading(257)
	for b := range 256 {
		all.Table.Next[1][b] = 256 - b
	}
	list, n := Kinds([]Mode{one, all})
	for b := range 256 {
		if n != 256 || list[b] != b {
			t.Fatalf("all bytes differ: %d kinds, %v", n, list)
		}
	}
}
