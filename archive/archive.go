// Package archive: all that a store has on its disk: segments, which an index names, and behind them the journal of what came last.
package archive

import (
	"slices"

	"tides/api"
	"tides/disk"
	"tides/files"
	"tides/journal"
)

// Archive: what the index says counts, and nothing else. All that it comes to name is safe ahead of that, and what it names no more is taken away behind it.
type Archive struct {
	disk    *disk.Disk
	index   *files.Index
	journal *journal.Journal
	last    int      // the greatest number that a segment has, though it may not count
	loose   []string // the files that lay there, till they are synced
}

// Open gives the archive of a disk, and all that was put, older ones first. It changes nothing on the disk.
func Open(d *disk.Disk) (*Archive, []files.Put, api.Errno) {
	index, e := files.ReadIndex(d)
	if e != api.OK {
		return nil, nil, e
	}
	a := &Archive{disk: d, index: index}
	for _, name := range d.List() {
		switch sort, number := files.Named(name); sort {
		case files.NoSort:
			return nil, nil, api.ErrCorrupt
		case files.SegmentSort:
			a.last = number
		}
	}
	segments, e := a.segments()
	if e != api.OK {
		return nil, nil, e
	}
	j, puts, e := journal.Open(d, index.FirstLog)
	if e != api.OK {
		return nil, nil, e
	}
	a.journal = j
	a.loose, _ = a.parted()
	return a, append(pointsOf(segments), puts...), api.OK
}

// Add adds a Put, and tells whether the archive has it: it may, though the disk failed. Behind a failure nothing is to be changed any more.
func (a *Archive) Add(p files.Put) (bool, api.Errno) {
	if e := a.settle(); e != api.OK {
		return false, e
	}
	return a.journal.Add(p)
}

// Sync makes all safe that was put.
func (a *Archive) Sync() api.Errno {
	return inTurn(a.settle, a.journal.Sync, a.disk.SyncDir)
}

// Flush lays what the journal has into segments of their own, one for each window of a length.
func (a *Archive) Flush(window int) api.Errno {
	puts, e := a.journal.Puts()
	if e != api.OK {
		return e
	}
	return a.replace(slices.Clone(a.index.Segments), inWindows(puts, window))
}

// Compact merges all into one segment for each window of a length. A window is let go when all in it is older than a time; one that lies in a segment of its own already stays there.
func (a *Archive) Compact(window int, oldest int) api.Errno {
	segments, e := a.segments()
	if e != api.OK {
		return e
	}
	puts, e := a.journal.Puts()
	if e != api.OK {
		return e
	}
	var kept []int
	var fresh [][]files.Put
	for _, points := range inWindows(append(pointsOf(segments), puts...), window) {
		if !slices.ContainsFunc(points, func(p files.Put) bool { return p.Time >= oldest }) {
			continue
		}
		i := slices.IndexFunc(segments, func(s *files.Segment) bool { return slices.Equal(s.Points, points) })
		if i < 0 {
			fresh = append(fresh, points)
		} else {
			kept = append(kept, segments[i].Number)
		}
	}
	slices.Sort(kept)
	return a.replace(kept, fresh)
}

// segments reads all segments that count.
func (a *Archive) segments() ([]*files.Segment, api.Errno) {
	var all []*files.Segment
	for _, number := range a.index.Segments {
		s, e := files.ReadSegment(a.disk, number)
		if e != api.OK {
			return nil, e
		}
		all = append(all, s)
	}
	return all, api.OK
}

func pointsOf(segments []*files.Segment) []files.Put {
	var all []files.Put
	for _, s := range segments {
		all = append(all, s.Points...)
	}
	return all
}

// replace lets some segments that lie there and new ones count, and nothing else. What interrupted calls have left is taken away first: so there is room.
func (a *Archive) replace(kept []int, fresh [][]files.Put) api.Errno {
	if e := inTurn(a.settle, a.sweep); e != api.OK {
		return e
	}
	for _, points := range fresh {
		a.last++
		if _, e := files.NewSegment(a.disk, a.last, points); e != api.OK {
			return e
		}
		kept = append(kept, a.last)
	}
	if e := a.turn(kept); e != api.OK {
		return e
	}
	return inTurn(a.sweep, a.disk.SyncDir)
}

// turn lets these segments count, and no log that lies there.
func (a *Archive) turn(segments []int) api.Errno {
	if a.index.Is(a.journal.Next(), segments) {
		return api.OK
	}
	if e := a.index.Turn(a.journal.Next(), segments); e != api.OK {
		return e
	}
	a.journal.Leave()
	return api.OK
}

// settle makes all files that lay there safe: no byte of them tells whether they are, and on a disk that is a copy of another none may be.
func (a *Archive) settle() api.Errno {
	for _, name := range a.loose {
		if e := a.disk.Sync(name); e != api.OK {
			return e
		}
	}
	a.loose = nil
	return api.OK
}

// sweep takes all files away that do not count.
func (a *Archive) sweep() api.Errno {
	_, others := a.parted()
	for _, name := range others {
		if e := a.disk.Remove(name); e != api.OK {
			return e
		}
	}
	return api.OK
}

// parted gives the names of the files that count, and those of the others.
func (a *Archive) parted() ([]string, []string) {
	names := []string{files.NameOf(files.IndexSort, 0)}
	for _, number := range a.journal.Logs() {
		names = append(names, files.NameOf(files.LogSort, number))
	}
	for _, number := range a.index.Segments {
		names = append(names, files.NameOf(files.SegmentSort, number))
	}
	slices.Sort(names)
	var counting, others []string
	for _, name := range a.disk.List() {
		if _, found := slices.BinarySearch(names, name); found {
			counting = append(counting, name)
		} else {
			others = append(others, name)
		}
	}
	return counting, others
}

// inTurn makes calls one behind the other, till one fails.
func inTurn(calls ...func() api.Errno) api.Errno {
	for _, call := range calls {
		if e := call(); e != api.OK {
			return e
		}
	}
	return api.OK
}
