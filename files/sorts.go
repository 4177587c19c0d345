package files

import (
	"strconv"
	"strings"
)

// Sort of a file.
type Sort int

const (
	NoSort      Sort = iota // of no store
	LogSort                 // Puts, in the order in which they were made
	SegmentSort             // points of a window of time, in their order
	IndexSort               // what counts
	DraftSort               // an index that does not count yet
)

// letters: what the names of each sort begin with.
var letters = [...]string{NoSort: "", LogSort: "l", SegmentSort: "s", IndexSort: "i", DraftSort: "d"}

const (
	nameDigits = 19
	lastNumber = 1 << 62 // far enough from the end of the Ints that later numbers are numbers too
)

// isNumbered: are there several files of a sort, each with a number?
func isNumbered(s Sort) bool { return s == LogSort || s == SegmentSort }

// isNumber: is it one that a file may have?
func isNumber(n int) bool { return n >= 1 && n <= lastNumber }

// NameOf pads the number, so that names stand in the order of their numbers.
func NameOf(s Sort, number int) string {
	if !isNumbered(s) {
		return letters[s]
	}
	digits := strconv.Itoa(number)
	return letters[s] + strings.Repeat("0", nameDigits-len(digits)) + digits
}

// Named tells the sort and the number (0, if its sort has none) that a name is made of: NoSort, if no store gives such a name.
func Named(name string) (Sort, int) {
	for s := NoSort + 1; int(s) < len(letters); s++ {
		number, _ := strconv.Atoi(strings.TrimPrefix(name, letters[s])) // no number of a file, where there is none
		if isNumber(number) == isNumbered(s) && NameOf(s, number) == name {
			return s, number
		}
	}
	return NoSort, 0
}
