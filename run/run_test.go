package run

import (
	"fmt"
	"strings"
	"testing"

	"lexer/api"
	"lexer/states"
	"lexer/tables"
)

// mode: of so many states and rules, with edges "from byte to"; ends tells by state the rule. It begins at state 1.
func mode(size int, rules int, ends map[int]int, edges ...string) states.Mode {
	m := states.Mode{Empty: make([]bool, rules), Table: states.Table{Start: 1}}
	for s := 0; s < size; s++ {
		m.Table.Next = append(m.Table.Next, make([]int, 256))
		rule, ok := ends[s]
		if !ok {
			rule = states.None
		}
		m.Table.Rules = append(m.Table.Rules, rule)
	}
	for _, e := range edges {
		var from, to int
		var b rune
		fmt.Sscanf(e, "%d %c %d", &from, &b, &to)
		m.Table.Next[from][b] = to
	}
	return m
}

// short: by event its kind, rule, places, line and column.
func short(list []api.Event) string {
	var out []string
	for _, e := range list {
		out = append(out, fmt.Sprintf("%d %d %d-%d %d.%d", e.Kind, e.Rule, e.From, e.To, e.Line, e.Col))
	}
	return strings.Join(out, ", ")
}

// plays: pieces, and what each tells; the last one is what Close tells.
func plays(t *testing.T, x *tables.Tables, steps ...string) {
	t.Helper()
	r := Begin(x)
	for i, step := range steps {
		piece, want, _ := strings.Cut(step, ": ")
		var list []api.Event
		if i == len(steps)-1 {
			list = r.Close()
		} else {
			list = r.Push(piece)
		}
		if got := short(list); got != want {
			t.Errorf("step %d, %q: %s, want %s", i, piece, got, want)
		}
	}
}

// Rule 0 is a, rule 1 is abb; rule 2 is a line feed.
func stream(ahead int, acts []int, pushed []int) *tables.Tables {
	x := tables.Make([]states.Mode{mode(6, 3, map[int]int{2: 0, 4: 1, 5: 2}, "1 a 2", "2 b 3", "3 b 4", "1 \n 5")}, acts, pushed, 3)
	if ahead >= 0 {
		x.MakeStream(ahead)
	}
	return x
}

func TestStream(t *testing.T) {
	x := stream(2, []int{api.Emit, api.Emit, api.Skip}, []int{0, 0, 0})
	plays(t, x, "a: ", "b: ", "b: ", "\n: ", "a: 1 1 0-3 1.1", "ab: 1 0 4-5 2.1", "Close: 1 0 5-6 2.2, 3 0 6-6 2.3")
	plays(t, x, "abba\na: 1 1 0-3 1.1, 1 0 3-4 1.4", ": ", "Close: 1 0 5-6 2.1, 2 0 6-6 2.2")
	plays(t, x, "b: ", "a: ", "a: 3 0 0-0 1.1", "a: ", "Close: ")
	plays(t, x, "Close: 2 0 0-0 1.1")
}

func TestOther(t *testing.T) {
	x := stream(-1, []int{api.Emit, api.Emit, api.Skip}, []int{0, 0, 0})
	plays(t, x, "a: ", "b: ", "\n: 1 0 0-1 1.1, 3 0 1-1 1.2", "a: ", "Close: ")
	plays(t, x, "a\na: 1 0 0-1 1.1", "b: ", "Close: 1 0 2-3 2.1, 3 0 3-3 2.2")
	plays(t, x, "abb: ", "Close: 1 1 0-3 1.1, 2 0 3-3 1.4")
	plays(t, x, "abb: ", "a: 6 0 0-0 1.1", "a: ", "Close: ")
	plays(t, x, "Close: 2 0 0-0 1.1")
}

func TestStack(t *testing.T) {
	for _, ahead := range []int{-1, 2} {
		x := stream(ahead, []int{api.Push, api.Pop, api.Emit}, []int{0, 0, 0})
		for w, want := range map[string]string{
			"aaa":    "1 0 0-1 1.1, 1 0 1-2 1.2, 1 0 2-3 1.3, 2 0 3-3 1.4",
			"aa\naa": "1 0 0-1 1.1, 1 0 1-2 1.2, 1 2 2-3 1.3, 1 0 3-4 2.1, 4 0 4-4 2.2",
			"\nabb":  "1 2 0-1 1.1, 5 0 1-1 2.1",
			"aabb":   "1 0 0-1 1.1, 1 1 1-4 1.2, 2 0 4-4 1.5",
		} {
			r := Begin(x)
			list := r.Push(w)
			list = append(list, r.Close()...)
			if got := short(list); got != want {
				t.Errorf("%q, %d ahead: %s, want %s", w, ahead, got, want)
			}
		}
	}
}

// A text that has not begun tells nothing.
func TestNoRun(t *testing.T) {
	r := Run{}
	if r.Push("a") != nil || r.Close() != nil {
		t.Error("it tells something")
	}
}

// The ring: bytes come and go in their order, however far it has turned.
func TestQueue(t *testing.T) {
	q := queue{}
	var want []byte
	next := byte(0)
	for round := 0; round < 300; round++ {
		for q.count < api.MaxHold-round%7 {
			q.add(next)
			want = append(want, next)
			next++
		}
		for i := range want {
			if q.at(i) != want[i] {
				t.Fatalf("round %d: byte %d is %d, not %d", round, i, q.at(i), want[i])
			}
		}
		n := 1 + round%(q.count-1)
		q.drop(n)
		want = want[n:]
		if q.count != len(want) {
			t.Fatalf("round %d: %d bytes", round, q.count)
		}
	}
}

func TestPlace(t *testing.T) {
	p := place{at: 4, line: 2, col: 3}
	if p.behind('a') != (place{at: 5, line: 2, col: 4}) || p.behind('\n') != (place{at: 5, line: 3, col: 1}) || p.behind('\r') != (place{at: 5, line: 2, col: 4}) {
		t.Error(p.behind('a'), p.behind('\n'))
	}
}
