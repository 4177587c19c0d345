package archive

import (
	"cmp"
	"slices"

	"tides/files"
)

// windowOf: which window of a length has a time: the quotient, rounded down.
func windowOf(time int, length int) int {
	w := time / length
	if time%length < 0 {
		w--
	}
	return w
}

// inWindows gives the points that Puts have made, for each window by itself, in the order of series and times.
func inWindows(puts []files.Put, length int) [][]files.Put {
	byPlace := slices.Clone(puts)
	slices.SortStableFunc(byPlace, func(p, q files.Put) int {
		return cmp.Or(cmp.Compare(windowOf(p.Time, length), windowOf(q.Time, length)), p.Compare(q))
	})
	var windows [][]files.Put
	for i, p := range byPlace {
		if i == 0 || windowOf(p.Time, length) != windowOf(byPlace[i-1].Time, length) {
			windows = append(windows, nil)
		}
		last := &windows[len(windows)-1]
		if n := len(*last); n > 0 && p.Compare((*last)[n-1]) == 0 {
			(*last)[n-1] = p // it was put later
			continue
		}
		*last = append(*last, p)
	}
	return windows
}
