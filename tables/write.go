package tables

// Bytes tells the tables as P10 lays them out.
func (t *Tables) Bytes() string {
	w := writer{}
	w.head(t)
	for _, start := range t.Starts {
		w.two(start)
	}
	for rule, act := range t.Acts {
		w.one(act)
		w.one(t.Pushed[rule])
	}
	for _, kind := range t.Kinds {
		w.one(kind)
	}
	for _, row := range t.Next {
		for _, to := range row {
			w.two(to)
		}
	}
	for _, rule := range t.Ends {
		w.one(rule + 1)
	}
	w.bytes = append(w.bytes, t.longer...)
	text := string(w.bytes)
	return text + sumOf(text)
}

// writer lays numbers one behind the other.
type writer struct {
	bytes []byte
}

func (w *writer) one(n int) {
	w.bytes = append(w.bytes, byte(n))
}

// two: the high byte comes first.
func (w *writer) two(n int) {
	w.one(n >> 8)
	w.one(n)
}

func (w *writer) head(t *Tables) {
	w.one('L')
	w.one('X')
	if t.Stream {
		w.one(1)
	} else {
		w.one(0)
	}
	w.one(t.Ahead)
	w.one(t.Hold)
	w.two(len(t.Starts))
	w.two(len(t.Acts))
	w.two(len(t.Next))
	w.two(t.Count)
}
