package files

import (
	"strconv"
	"strings"
)

// Sort of a file.
type Sort int

const (
	NoSort  Sort = iota // of no store
	LogSort             // Puts, in the order in which they were made
)

// letters: what the names of each sort begin with.
var letters = [...]string{NoSort: "", LogSort: "l"}

const (
	nameDigits = 19
	lastNumber = 1 << 62 // far enough from the end of the Ints that one more is a number too
)

// nameOf pads the number, so that names stand in the order of their numbers.
func nameOf(s Sort, number int) string {
	digits := strconv.Itoa(number)
	return letters[s] + strings.Repeat("0", nameDigits-len(digits)) + digits
}

// Named tells the sort and the number that a name is made of: NoSort, if no store gives such a name.
func Named(name string) (Sort, int) {
	for s := NoSort + 1; int(s) < len(letters); s++ {
		number, err := strconv.Atoi(strings.TrimPrefix(name, letters[s]))
		if err == nil && number > 0 && number <= lastNumber && nameOf(s, number) == name {
			return s, number
		}
	}
	return NoSort, 0
}
