package states

// Mode: its states, and by rule whether it denotes the empty word.
type Mode struct {
	Table Table
	Empty []bool
}

// Kinds tells by byte its kind (P7), and how many kinds there are; they are numbered as they are met.
func Kinds(modes []Mode) ([]int, int) {
	var list []int
	count := 0
	for b := 0; b < 256; b++ {
		a := firstAlike(modes, b)
		if a < b {
			list = append(list, list[a])
			continue
		}
		list = append(list, count)
		count++
	}
	return list, count
}

// firstAlike tells the first byte that leads on like this one everywhere.
func firstAlike(modes []Mode, b int) int {
	for a := 0; a < b; a++ {
		if leadAlike(modes, a, b) {
			return a
		}
	}
	return b
}

func leadAlike(modes []Mode, a int, b int) bool {
	for _, m := range modes {
		for _, row := range m.Table.Next {
			if row[a] != row[b] {
				return false
			}
		}
	}
	return true
}
