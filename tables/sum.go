package tables

// sumLength: how many bytes a sum has.
const sumLength = 4

// sumOf tells the CRC-32 of a text, the high byte first.
func sumOf(text string) string {
	sum := ^uint32(0)
	for i := 0; i < len(text); i++ {
		sum ^= uint32(text[i])
		for bit := 0; bit < 8; bit++ {
			sum = withoutLowest(sum)
		}
	}
	sum = ^sum
	return string([]byte{byte(sum >> 24), byte(sum >> 16), byte(sum >> 8), byte(sum)})
}

// withoutLowest divides by the polynomial, one bit further.
func withoutLowest(sum uint32) uint32 {
	if sum&1 == 1 {
		return sum>>1 ^ 0xedb88320
	}
	return sum >> 1
}

// hasSum: a text ends with the sum of all that stands ahead of it.
func hasSum(text string) bool {
	end := len(text) - sumLength
	if end < 0 {
		return false
	}
	return text[end:] == sumOf(text[:end])
}
