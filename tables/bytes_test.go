package tables

import (
	"hash/crc32"
	"math/rand"
	"reflect"
	"strings"
	"testing"

	"lexer/states"
)

// summed: a text with its sum behind it.
func summed(s string) string {
	c := crc32.ChecksumIEEE([]byte(s))
	return s + string([]byte{byte(c >> 24), byte(c >> 16), byte(c >> 8), byte(c)})
}

func TestSum(t *testing.T) {
	if got := sumOf("123456789"); got != "\xcb\xf4\x39\x26" {
		t.Errorf("%x", got)
	}
	if got := sumOf(""); got != "\x00\x00\x00\x00" {
		t.Errorf("%x", got)
	}
	m := rand.New(rand.NewSource(3))
	for n := 0; n < 300; n++ {
		b := make([]byte, n)
		m.Read(b)
		s := string(b)
		if s+sumOf(s) != summed(s) || !hasSum(summed(s)) || hasSum(s+"\x00"+sumOf(s)) {
			t.Fatalf("%x", s)
		}
	}
	for _, s := range []string{"", "\x00", "\x00\x00\x00", "\x00\x00\x00\x01", "123456789\x26\x39\xf4\xcb"} {
		if hasSum(s) {
			t.Errorf("%x", s)
		}
	}
	if !hasSum("\x00\x00\x00\x00") {
		t.Error("the sum of nothing")
	}
}

// The kinds of bytes of both modes, or of the first alone.
func kindsOf(letters string) string {
	b := make([]byte, 256)
	for i := range letters {
		b[letters[i]] = byte(1 + i)
	}
	return string(b)
}

const (
	// By state and kind of the modes one and two: to which state it leads; by state the rule that ends there.
	nextOfOne = "\x00\x00\x00\x00\x00\x00" + "\x00\x00\x00\x02\x00\x00" + "\x00\x00\x00\x00\x00\x03" + "\x00\x00\x00\x04\x00\x03" + "\x00\x00\x00\x00\x00\x00"
	endsOfOne = "\x00\x00\x01\x00\x02"
	nextOfAll = "\x00\x00\x00\x00\x00\x00\x00\x00" + "\x00\x00\x00\x02\x00\x00\x00\x00" + "\x00\x00\x00\x00\x00\x03\x00\x00" + "\x00\x00\x00\x04\x00\x03\x00\x00" + "\x00\x00\x00\x00\x00\x00\x00\x00" +
		"\x00\x05\x00\x05\x00\x05\x00\x05" + "\x00\x05\x00\x05\x00\x05\x00\x05" + "\x00\x05\x00\x05\x00\x06\x00\x06"
	endsOfAll = "\x00\x00\x01\x00\x02\x00\x03\x00"
)

// P10: the tables in their order, to the byte.
func TestBytes(t *testing.T) {
	x := Make([]states.Mode{one}, []int{1, 2}, []int{0, 0}, 64)
	head := "\x00\x01\x00\x02\x00\x05\x00\x03" + "\x00\x01" + "\x01\x00\x02\x00" + kindsOf("ab") + nextOfOne + endsOfOne
	same(t, x, "LX\x00\x00\x40"+head+"\x00")
	x.MakeStream(0)
	same(t, x, "LX\x01\x00\x40"+head+"\x00")
	// One byte ahead, by what it is: from state 1 on a ends a token, from state 3 on too.
	x.MakeStream(1)
	same(t, x, "LX\x01\x01\x40"+head+"\x40\x01\x00")
	// Two bytes ahead: a behind 1 and 3, whatever follows; b behind 2 or 3, and then a.
	x.MakeStream(2)
	rows := make([]byte, 10)
	for _, bit := range []int{4*5 + 1, 4*5 + 3, 5*5 + 1, 5*5 + 3, 6*5 + 1, 6*5 + 3, 7*5 + 1, 7*5 + 3, 9*5 + 2, 9*5 + 3} {
		rows[bit/8] |= 1 << (bit % 8)
	}
	same(t, x, "LX\x01\x02\x40"+head+string(rows))
	all := Make([]states.Mode{one, two, two}, []int{0, 3, 2, 2}, []int{0, 0, 1, 2}, 1)
	if b := all.Bytes(); b[:13] != "LX\x00\x00\x01\x00\x03\x00\x04\x00\x0b\x00\x04" || b[13:19] != "\x00\x01\x00\x07\x00\x0a" || b[19:27] != "\x00\x00\x03\x00\x02\x01\x02\x02" || len(b) != 27+256+88+11+2+4 {
		t.Errorf("%q", b[:27])
	}
	both := Make([]states.Mode{one, two}, []int{0, 3, 2}, []int{0, 0, 1}, 7)
	same(t, both, "LX\x00\x00\x07\x00\x02\x00\x03\x00\x08\x00\x04"+"\x00\x01\x00\x07"+"\x00\x00\x03\x00\x02\x01"+kindsOf("abc")+nextOfAll+endsOfAll+"\x00")
}

// same: the tables are told as these bytes and their sum, and are read from them again.
func same(t *testing.T, x *Tables, want string) {
	t.Helper()
	want = summed(want)
	got := x.Bytes()
	if got != want {
		t.Errorf("%q, want %q", got, want)
	}
	y, ok := Load(got)
	if !ok || !reflect.DeepEqual(x, y) {
		t.Errorf("%v %v, want %v", ok, y, x)
	}
}

// P10: numbers of two bytes, the high one first; a rule above 7 and a state above 255 are not there, but kinds may be 256.
func TestManyKinds(t *testing.T) {
	m := mode(200, 8, 199, map[int]int{3: 7})
	for b := range m.Table.Next[0] {
		m.Table.Next[199][b] = b % 199
		m.Table.Next[198][b] = b / 199
	}
	x := Make([]states.Mode{m}, make([]int, 8), make([]int, 8), 9)
	for ahead := -1; ahead < 2; ahead++ {
		if ahead >= 0 {
			x.MakeStream(ahead)
		}
		b := x.Bytes()
		if b[9:15] != "\x00\xc8\x01\x00\x00\xc7" {
			t.Errorf("%q", b[:15])
		}
		y, ok := Load(b)
		if !ok || !reflect.DeepEqual(x, y) || y.Bytes() != b {
			t.Errorf("%d ahead: other tables", ahead)
		}
	}
}

// P10: what is no tables: cut off, or with more behind, with and without a right sum.
func TestLoadOfOtherLengths(t *testing.T) {
	x := Make([]states.Mode{one, two}, []int{0, 3, 2}, []int{0, 0, 1}, 7)
	x.MakeStream(1)
	b := x.Bytes()
	body := b[:len(b)-4]
	for n := range b {
		isNone(t, b[:n])
		if n < len(body) {
			isNone(t, summed(body[:n]))
		}
	}
	for _, more := range []string{"\x00", "\x00\x00\x00\x00", "L", b} {
		isNone(t, b+more)
		isNone(t, summed(body+more))
		isNone(t, summed(b+more))
		isNone(t, more+b)
	}
	isNone(t, summed(b))
	isNone(t, strings.Repeat("\x00", 1000))
}

func isNone(t *testing.T, b string) {
	t.Helper()
	if x, ok := Load(b); ok || x != nil {
		t.Errorf("%d bytes are tables: %.20q", len(b), b)
	}
}

// P10: how many ways may lie ahead: numbers that are too great do not turn small again.
func TestRows(t *testing.T) {
	for _, c := range []struct{ kinds, ahead, want int }{
		{1, 0, 1}, {256, 0, 1}, {1, 1, 2}, {256, 1, 257}, {1, 11, 2048}, {2, 7, 2187}, {53, 2, 2916}, {54, 2, 3025}, {13, 3, 2744}, {4, 5, 3125},
	} {
		if got := Rows(c.kinds, c.ahead); got != c.want {
			t.Errorf("%d kinds, %d ahead: %d", c.kinds, c.ahead, got)
		}
	}
	for kinds := 1; kinds <= 256; kinds++ {
		for ahead := 12; ahead < 256; ahead++ {
			if Rows(kinds, ahead) <= 3000 {
				t.Errorf("%d kinds, %d ahead: %d", kinds, ahead, Rows(kinds, ahead))
			}
		}
	}
}
