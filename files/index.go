package files

import (
	"cmp"
	"slices"
	"strings"

	"tides/api"
	"tides/disk"
)

// Index tells what counts: some segments, the older ones first, and behind them all logs from a number on.
type Index struct {
	file
	FirstLog int
	Segments []int // their numbers
}

// ReadIndex gives the index of a disk. Where none was written yet, no segment and every log counts.
func ReadIndex(d *disk.Disk) (*Index, api.Errno) {
	x := &Index{file: fileOf(d, IndexSort, 0), FirstLog: 1}
	data, e := x.read()
	if e == api.ErrName {
		return x, api.OK
	}
	numbers := intsOf(data)
	if e != api.OK || len(numbers) == 0 || len(data) != len(numbers)*intSize {
		return nil, api.ErrCorrupt
	}
	for _, n := range numbers {
		if !isNumber(n) {
			return nil, api.ErrCorrupt
		}
	}
	x.FirstLog, x.Segments = numbers[0], numbers[1:]
	if !rise(x.Segments, cmp.Compare[int]) {
		return nil, api.ErrCorrupt
	}
	return x, api.OK
}

// Turn lets other segments and logs count, from one call of the disk on: whatever a crash leaves is the index as it was, or as it is then. No draft must lie there.
func (x *Index) Turn(firstLog int, segments []int) api.Errno {
	var b strings.Builder
	b.WriteString(intBytes(firstLog))
	for _, n := range segments {
		b.WriteString(intBytes(n))
	}
	draft := x.file
	draft.name = NameOf(DraftSort, 0)
	if e := draft.write(b.String()); e != api.OK {
		return e
	}
	if e := x.disk.Rename(draft.name, x.name); e != api.OK {
		return e
	}
	x.FirstLog, x.Segments = firstLog, segments
	return api.OK
}

// Is tells whether these are what counts.
func (x *Index) Is(firstLog int, segments []int) bool {
	return x.FirstLog == firstLog && slices.Equal(x.Segments, segments)
}
