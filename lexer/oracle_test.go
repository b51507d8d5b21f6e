package lexer

import (
	"fmt"
	"math/rand"
	"sort"
	"strings"
	"testing"
	"unicode/utf8"

	"lexer/api"
)

// The oracle makes specifications by chance, with what they denote beside the text, and finds the report by the words of P6 and P7: an automaton with empty steps, all sets of its states, all bytes of all characters, and then the partition of what was reached. It shares nothing with the program.

// leaf: a text that stands for one character, and for which, alone and within (i: .. ).
type leaf struct {
	text      string
	has, both func(rune) bool
}

func between(first, last rune) func(rune) bool {
	return func(c rune) bool { return c >= first && c <= last }
}

func not(f func(rune) bool) func(rune) bool {
	return func(c rune) bool { return !f(c) }
}

func in(s string) func(rune) bool {
	return func(c rune) bool { return strings.ContainsRune(s, c) }
}

var leaves = []leaf{
	{`a`, in("a"), in("aA")}, {`a`, in("a"), in("aA")}, {`b`, in("b"), in("bB")}, {`B`, in("B"), in("bB")}, {`[ab]`, in("ab"), in("abAB")}, {`[a-c]`, in("abc"), in("abcABC")}, {`\x41`, in("A"), in("aA")},
	{`\u{62}`, in("b"), in("bB")}, {`[^a]`, not(in("a")), not(in("aA"))}, {`[^\x41-\u{43}]`, not(in("ABC")), not(in("abcABC"))}, {`[Z-b]`, in("Z[\\]^_`ab"), in("Zz[\\]^_`abAB")},
	{`.`, not(in("\n")), not(in("\n"))}, {`\n`, in("\n"), in("\n")}, {`[\x7f-\u{80}]`, between(0x7f, 0x80), between(0x7f, 0x80)}, {`\xe9`, in("é"), in("é")},
	{`[\u{7ff}-\u{800}]`, between(0x7ff, 0x800), between(0x7ff, 0x800)}, {`[\u{400}-\u{4ff}]`, between(0x400, 0x4ff), between(0x400, 0x4ff)},
	{`[\u{d700}-\u{e000}]`, between(0xd700, 0xe000), between(0xd700, 0xe000)}, {`[^\u{d7ff}]`, not(in("\ud7ff")), not(in("\ud7ff"))},
	{`[\u{ffff}-\u{10000}]`, between(0xffff, 0x10000), between(0xffff, 0x10000)}, {`\u{10ffff}`, in("\U0010ffff"), in("\U0010ffff")},
	{`[\x00-\u{10ffff}]`, between(0, 0x10ffff), between(0, 0x10ffff)}, {`[^\x00-\u{10ffff}]`, in(""), in("")},
}

// trie: by byte the node behind it, if it is not 0, or, at a character's end, the leaves that have it, as bits; nodes that are the same have the same number.
type trie struct {
	next [256]int
	ends bool
	sig  int
}

var nodes []trie
var root int

// sigOf: bit 2i: leaf i has the character; bit 2i+1: it does so within (i: .. ).
func sigOf(c rune) int {
	n := 0
	for i, l := range leaves {
		if l.has(c) {
			n |= 1 << (2 * i)
		}
		if l.both(c) {
			n |= 2 << (2 * i)
		}
	}
	return n
}

// makeTrie writes down all characters.
func makeTrie() {
	if nodes != nil {
		return
	}
	type raw struct {
		next map[byte]*raw
		sig  int
	}
	top := &raw{next: map[byte]*raw{}}
	for c := rune(0); c <= 0x10ffff; c++ {
		if !utf8.ValidRune(c) {
			continue
		}
		at := top
		for _, b := range []byte(string(c)) {
			if at.next[b] == nil {
				at.next[b] = &raw{next: map[byte]*raw{}}
			}
			at = at.next[b]
		}
		at.sig = sigOf(c)
	}
	nodes = []trie{{}}
	known := map[trie]int{}
	var number func(*raw) int
	number = func(r *raw) int {
		n := trie{ends: len(r.next) == 0, sig: r.sig}
		for b := range r.next {
			n.next[b] = number(r.next[b])
		}
		if _, ok := known[n]; !ok {
			known[n] = len(nodes)
			nodes = append(nodes, n)
		}
		return known[n]
	}
	root = number(top)
}

// nfa: edges that take nothing, and those that take a character of a leaf (by the bit of sigOf).
type nfa struct {
	free [][]int
	leaf []int
	to   []int
}

func (a *nfa) state() int {
	a.free = append(a.free, nil)
	a.leaf = append(a.leaf, -1)
	a.to = append(a.to, 0)
	return len(a.free) - 1
}

// part: lays itself down in an automaton between two states; text: how it is written; chars: how many characters it has.
type part struct {
	text  string
	chars int
	lay   func(a *nfa, from, to int)
}

type maker struct {
	*rand.Rand
	pool  []int // leaves
	names []string
	defs  []part
}

func (m *maker) atom(depth int, both bool) part {
	if k := m.Intn(8); depth > 0 && k < 4 {
		switch {
		case k == 0:
			return part{"()", 0, func(a *nfa, from, to int) { a.free[from] = append(a.free[from], to) }}
		case k == 1:
			p := m.either(depth-1, true)
			return part{"(i:" + p.text + ")", p.chars, p.lay}
		}
		p := m.either(depth-1, both)
		return part{"(" + p.text + ")", p.chars, p.lay}
	} else if k == 4 && len(m.defs) > 0 {
		i := m.Intn(len(m.defs))
		return part{"{" + m.names[i] + "}", m.defs[i].chars, m.defs[i].lay}
	}
	l := m.pool[m.Intn(len(m.pool))]
	bit := 2 * l
	if both {
		bit++
	}
	return part{leaves[l].text, 1, func(a *nfa, from, to int) {
		s := a.state()
		a.free[from] = append(a.free[from], s)
		a.leaf[s] = bit
		a.to[s] = to
	}}
}

func (m *maker) thing(depth int, both bool) part {
	p := m.atom(depth, both)
	for m.Intn(3) == 0 {
		p = m.again(p)
	}
	return p
}

func (m *maker) again(p part) part {
	least, most := 0, -1
	text := "*"
	switch m.Intn(6) {
	case 0:
		least, text = 1, "+"
	case 1:
		most, text = 1, "?"
	case 2:
		least = m.Intn(4)
		most, text = least, fmt.Sprintf("{%d}", least)
	case 3:
		least = m.Intn(4)
		text = fmt.Sprintf("{%d,}", least)
	case 4:
		least = m.Intn(3)
		most = least + m.Intn(5-least)
		text = fmt.Sprintf("{%d,%d}", least, most)
	}
	chars := p.chars * most
	if most < 0 {
		chars = p.chars * max(1, least)
	}
	return part{p.text + text, chars, func(a *nfa, from, to int) {
		for i := 0; i < least; i++ {
			s := a.state()
			p.lay(a, from, s)
			from = s
		}
		for i := least; i < most; i++ {
			s := a.state()
			a.free[from] = append(a.free[from], to)
			p.lay(a, from, s)
			from = s
		}
		if most < 0 {
			s := a.state()
			a.free[from] = append(a.free[from], s)
			p.lay(a, s, s)
			from = s
		}
		a.free[from] = append(a.free[from], to)
	}}
}

func (m *maker) row(depth int, both bool) part {
	p := m.thing(depth, both)
	for m.Intn(2) == 0 {
		p = behind(p, m.thing(depth, both))
	}
	return p
}

func behind(p, q part) part {
	return part{p.text + q.text, p.chars + q.chars, func(a *nfa, from, to int) {
		s := a.state()
		p.lay(a, from, s)
		q.lay(a, s, to)
	}}
}

func (m *maker) either(depth int, both bool) part {
	p := m.row(depth, both)
	for m.Intn(4) == 0 {
		p = or(p, m.row(depth, both))
	}
	return p
}

func or(p, q part) part {
	return part{p.text + "|" + q.text, p.chars + q.chars, func(a *nfa, from, to int) {
		p.lay(a, from, to)
		q.lay(a, from, to)
	}}
}

// machine: the reached states of a mode, by number: where each byte leads; the rule, or -1. State 0 is that of the empty word.
type machine struct {
	next [][256]int
	rule []int
	null []bool // by rule: whether it denotes the empty word
}

func (a *nfa) closed(list []int) []int {
	seen := map[int]bool{}
	var visit func(int)
	visit = func(s int) {
		if !seen[s] {
			seen[s] = true
			for _, t := range a.free[s] {
				visit(t)
			}
		}
	}
	for _, s := range list {
		visit(s)
	}
	var out []int
	for s := range seen {
		out = append(out, s)
	}
	sort.Ints(out)
	return out
}

// machineOf tells the machine of the rules; false if it grows too great for the oracle.
func machineOf(rules []part) (*machine, bool) {
	a := &nfa{}
	start := a.state()
	var ends []int
	for _, p := range rules {
		e := a.state()
		f := a.state()
		a.free[start] = append(a.free[start], f)
		p.lay(a, f, e)
		ends = append(ends, e)
	}
	ruleOf := func(set []int) int {
		for r, e := range ends {
			if i := sort.SearchInts(set, e); i < len(set) && set[i] == e {
				return r
			}
		}
		return -1
	}
	type place struct {
		set   []int
		node  int
		whole bool
	}
	m := &machine{}
	known := map[string]int{}
	var list []place
	reach := func(p place, fresh bool) int {
		key := fmt.Sprint(p, fresh)
		if n, ok := known[key]; ok {
			return n
		}
		n := len(list)
		known[key] = n
		list = append(list, p)
		m.rule = append(m.rule, -1)
		if p.whole && !fresh {
			m.rule[n] = ruleOf(p.set)
		}
		return n
	}
	first := a.closed([]int{start})
	for _, e := range ends {
		i := sort.SearchInts(first, e)
		m.null = append(m.null, i < len(first) && first[i] == e)
	}
	reach(place{first, root, true}, true)
	dead := reach(place{nil, root, true}, false)
	for i := 0; i < len(list); i++ {
		var row [256]int
		steps := map[int]int{}
		for b := range row {
			row[b] = dead
			if list[i].set == nil {
				continue
			}
			n := nodes[list[i].node].next[b]
			if n == 0 {
				continue
			}
			if _, ok := steps[n]; !ok {
				if !nodes[n].ends {
					steps[n] = reach(place{list[i].set, n, false}, false)
				} else {
					var to []int
					for _, s := range list[i].set {
						if a.leaf[s] >= 0 && nodes[n].sig>>a.leaf[s]&1 == 1 {
							to = append(to, a.to[s])
						}
					}
					steps[n] = reach(place{a.closed(to), root, true}, false)
				}
			}
			row[b] = steps[n]
		}
		m.next = append(m.next, row)
		if len(list) > 1000 {
			return nil, false
		}
	}
	return m, true
}

// least parts the states until all of a part lead on alike, and makes one of each part.
func (m *machine) least() *machine {
	class := make([]int, len(m.rule))
	for s, r := range m.rule {
		class[s] = r + 1
	}
	count := 0
	for {
		known := map[[257]int]int{}
		fresh := make([]int, len(class))
		for s := range class {
			var key [257]int
			key[256] = class[s]
			for b, to := range m.next[s] {
				key[b] = class[to]
			}
			if _, ok := known[key]; !ok {
				known[key] = len(known)
			}
			fresh[s] = known[key]
		}
		class = fresh
		if len(known) == count {
			break
		}
		count = len(known)
	}
	out := &machine{next: make([][256]int, count), rule: make([]int, count), null: m.null}
	for s, c := range class {
		out.rule[c] = m.rule[s]
		for b, to := range m.next[s] {
			out.next[c][b] = class[to]
		}
	}
	return out
}

// live tells by state whether a token ends there or further on.
func (m *machine) live() []bool {
	live := make([]bool, len(m.rule))
	for range m.rule {
		for s := range m.rule {
			live[s] = live[s] || m.rule[s] >= 0
			for _, to := range m.next[s] {
				live[s] = live[s] || live[to]
			}
		}
	}
	return live
}

// distance: the longest way from a token to the next one; endless is told as -1.
func (m *machine) distance() int {
	live := m.live()
	const endless = 1 << 30
	way := make([]int, len(m.rule))
	var from func(s int) int
	from = func(s int) int {
		if way[s] != 0 {
			return way[s]
		}
		way[s] = endless
		far := 0
		for _, to := range m.next[s] {
			if m.rule[to] >= 0 {
				far = max(far, 1)
			} else if live[to] {
				far = max(far, min(endless, 1+from(to)))
			}
		}
		if m.rule[s] < 0 {
			way[s] = far
		}
		return far
	}
	far := 0
	for s := range m.rule {
		if m.rule[s] >= 0 {
			way[s] = 0
			far = max(far, from(s))
			way[s] = 0
		}
	}
	if far >= endless {
		return -1
	}
	return far
}

// machines tells those of all modes, as small as they can be; false if one is too great for the oracle.
func machines(modes [][]part) ([]*machine, bool) {
	var list []*machine
	for _, rules := range modes {
		m, ok := machineOf(rules)
		if !ok {
			return nil, false
		}
		list = append(list, m.least())
	}
	return list, true
}

// expected: the report that P6 and P7 ask for, and how many states all modes have.
func expected(list []*machine, force bool) (api.Report, int) {
	r := api.Report{}
	states := 0
	columns := make([]string, 256)
	for _, m := range list {
		states += len(m.rule)
		far := m.distance()
		r.Modes = append(r.Modes, api.Mode{States: len(m.rule), Distance: far})
		if far < 0 || r.Ahead < 0 {
			r.Ahead = -1
		} else {
			r.Ahead = max(r.Ahead, far)
		}
		for i := range m.null {
			shadowed := true
			for _, rule := range m.rule {
				shadowed = shadowed && rule != i
			}
			r.Shadowed = append(r.Shadowed, shadowed)
			r.Empty = append(r.Empty, m.null[i])
		}
		for b := range columns {
			for s := range m.next {
				columns[b] += string(rune(m.next[s][b]))
			}
		}
	}
	kinds := map[string]bool{}
	for _, c := range columns {
		kinds[c] = true
	}
	rows := 1
	for i := 0; i < r.Ahead && rows < 1<<20; i++ {
		rows *= len(kinds) + 1
	}
	r.Stream = r.Ahead >= 0 && rows <= 3000 && !force
	return r, states
}

// deed: what a rule does, and the mode that it pushes.
type deed struct {
	what, mode int
}

// deed makes one by chance, and tells how it is written.
func (m *maker) deed(modes int) (deed, string) {
	switch m.Intn(6) {
	case 0:
		return deed{api.Skip, 0}, "-"
	case 1, 2:
		n := m.Intn(modes)
		return deed{api.Push, n}, fmt.Sprint(">m", n)
	case 3:
		return deed{api.Pop, 0}, "<"
	}
	return deed{api.Emit, 0}, "."
}

// spec makes a specification by chance, of modes of few enough characters.
func (m *maker) spec() (string, [][]part, []deed) {
	m.pool = nil
	for i := 1 + m.Intn(4); i > 0; i-- {
		m.pool = append(m.pool, m.Intn(1+m.Intn(len(leaves))))
	}
	m.names, m.defs = nil, nil
	text := ""
	for i := m.Intn(3); i > 0; i-- {
		p := m.either(1, false)
		name := string(rune('a' + len(m.names)))
		text += "let " + name + " " + p.text + "\n"
		m.names = append(m.names, name)
		m.defs = append(m.defs, p)
	}
	var modes [][]part
	var deeds []deed
	count := 1 + m.Intn(3)*m.Intn(2)
	for i := 0; i < count; i++ {
		text += "mode m" + fmt.Sprint(i) + "\n"
		var rules []part
		for k := 1 + m.Intn(3)*m.Intn(2); k > 0; k-- {
			p := m.either(2, false)
			d, act := m.deed(count)
			rules = append(rules, p)
			deeds = append(deeds, d)
			text += "r " + act + " " + p.text + "\n"
		}
		modes = append(modes, rules)
	}
	return text, modes, deeds
}

// fits: the text has no error but for ErrStates.
func fits(text string, modes [][]part) bool {
	count := 0
	for _, rules := range modes {
		count += len(rules)
		chars := 0
		for _, p := range rules {
			chars += p.chars
		}
		if chars > 24 {
			return false
		}
	}
	return len(text) <= 400 && count <= 8
}

// sameAsExpected tells that the report of a text is the expected one, and which limits suffice for it.
func sameAsExpected(t *testing.T, text string, modes [][]part, force bool) bool {
	list, ok := machines(modes)
	if !ok {
		return false
	}
	want, states := expected(list, force)
	limits := api.Limits{States: 200, Hold: 64, Force: force}
	if states > 200 {
		answers(t, text, limits, api.ErrStates, 0)
		return true
	}
	limits.States = states
	_, got, e := Generate(text, limits)
	if e != api.OK || plain(got) != plain(want) {
		t.Fatalf("%q: %d %s, want %s", text, e, plain(got), plain(want))
	}
	for i, m := range list {
		if !m.isShown(got.Modes[i]) {
			t.Fatalf("%q: %+v", text, got.Modes[i])
		}
	}
	if states > 1 {
		limits.States = states - 1
		answers(t, text, limits, api.ErrStates, 0)
	}
	return true
}

// isPair: both are tokens, the first begins the second, and no word between is a token.
func (m *machine) isPair(from, to string) bool {
	at := 0
	ends := []int{0}
	for i := 0; i < len(to); i++ {
		at = m.next[at][to[i]]
		if m.rule[at] >= 0 {
			ends = append(ends, i+1)
		}
	}
	n := len(ends)
	return from != "" && strings.HasPrefix(to, from) && n > 2 && ends[n-1] == len(to) && ends[n-2] == len(from)
}

// isShown: the words show the distance, and those that are not wanted are empty (P6).
func (m *machine) isShown(r api.Mode) bool {
	if r.Distance == 0 {
		return r.From+r.To+r.X+r.Y+r.Z == ""
	}
	if r.Distance > 0 {
		return r.X+r.Y+r.Z == "" && len(r.To) == len(r.From)+r.Distance && m.isPair(r.From, r.To)
	}
	for n := 0; n < 6; n++ {
		if !m.isPair(r.From, r.From+r.X+strings.Repeat(r.Y, n)+r.Z) {
			return false
		}
	}
	return r.To == "" && r.Y != ""
}

// plain: a report without the words that show distances, which are free.
func plain(r api.Report) string {
	s := ""
	for _, m := range r.Modes {
		s += fmt.Sprintf("%d/%d ", m.States, m.Distance)
	}
	return s + fmt.Sprint(r.Shadowed, r.Empty, r.Ahead, r.Stream, r.Line)
}

// P3, P5, P6 and P7: reports of specifications that were made by chance, the same ones at every run.
func TestReportsAgainstTheOracle(t *testing.T) {
	makeTrie()
	m := &maker{Rand: rand.New(rand.NewSource(7))}
	done := 0
	for i := 0; i < 3000; i++ {
		text, modes, _ := m.spec()
		if fits(text, modes) && sameAsExpected(t, text, modes, i%16 == 0) {
			done++
		}
	}
	if done < 1500 {
		t.Errorf("only %d of them could be looked at", done)
	}
}
