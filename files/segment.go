package files

import (
	"strings"

	"tides/api"
	"tides/disk"
)

// Segment: points, at most one of a series at a time, in the order of their series and times. It is written at once, and is whole ahead of counting for anything: so one that lacks something is spoilt.
type Segment struct {
	file
	Number int
	Points []Put
}

func segmentOf(d *disk.Disk, number int) *Segment {
	return &Segment{file: fileOf(d, SegmentSort, number), Number: number}
}

// NewSegment makes the segment of a number, of points in their order, and makes it safe.
func NewSegment(d *disk.Disk, number int, points []Put) (*Segment, api.Errno) {
	s := segmentOf(d, number)
	s.Points = points
	var b strings.Builder
	for _, p := range points {
		b.WriteString(putBytes(p))
	}
	if e := s.write(b.String()); e != api.OK {
		return nil, e
	}
	return s, api.OK
}

// ReadSegment gives the segment of a number. It counts: so if it is not there, the disk is spoilt.
func ReadSegment(d *disk.Disk, number int) (*Segment, api.Errno) {
	s := segmentOf(d, number)
	data, e := s.read()
	if e != api.OK {
		return nil, api.ErrCorrupt
	}
	for ; len(data) >= putSize; data = data[putSize:] {
		p, ok := putOf(data)
		if !ok {
			return nil, api.ErrCorrupt
		}
		s.Points = append(s.Points, p)
	}
	if data != "" || !rise(s.Points, Put.Compare) {
		return nil, api.ErrCorrupt
	}
	return s, api.OK
}

// rise: is each greater than the one ahead of it?
func rise[T any](l []T, compare func(T, T) int) bool {
	for i := 1; i < len(l); i++ {
		if compare(l[i-1], l[i]) >= 0 {
			return false
		}
	}
	return true
}
