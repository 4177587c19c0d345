package files

const (
	intSize = 8
	sumSize = 4
)

// intBytes: the lowest byte first.
func intBytes(n int) string {
	var b [intSize]byte
	for i := range b {
		b[i] = byte(uint64(n) >> (8 * i))
	}
	return string(b[:])
}

// sumBytes: the lowest byte first too, as addSum asks for.
func sumBytes(sum uint32) string {
	return intBytes(int(sum))[:sumSize]
}

func intOf(text string) int {
	n := uint64(0)
	for i := range intSize {
		n |= uint64(text[i]) << (8 * i)
	}
	return int(n)
}

// intsOf gives the Ints that a text begins with; what is left is less than one.
func intsOf(text string) []int {
	var l []int
	for ; len(text) >= intSize; text = text[intSize:] {
		l = append(l, intOf(text))
	}
	return l
}
