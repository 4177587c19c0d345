// Package tides: points in time that outlive crashes, and do not outlive their time: see DOC.md.
package tides

import (
	"math"
	"sync"

	"tides/api"
	"tides/archive"
	"tides/disk"
	"tides/files"
	"tides/points"
)

// Store is a store that is open. All points that are alive stand in its rows, so that a question needs no disk, which might fail.
type Store struct {
	mutex    sync.Mutex
	archive  *archive.Archive
	life     int
	window   int
	clock    int
	readOnly bool
	rows     [api.MaxSeries]points.Row
}

// Open opens the store on a disk (P3).
func Open(d *disk.Disk, c api.Config, clock int) (*Store, api.Errno) {
	if !isSpan(c.Life) || !isSpan(c.Window) {
		return nil, api.ErrConfig
	}
	a, puts, e := archive.Open(d)
	if e != api.OK {
		return nil, e
	}
	s := &Store{archive: a, life: c.Life, window: c.Window, clock: clock}
	for _, p := range puts {
		s.keep(p)
	}
	return s, api.OK
}

// Put writes a point (P4).
func (s *Store) Put(series int, time int, value int) api.Errno {
	s.mutex.Lock()
	defer s.mutex.Unlock()
	if !isSeries(series) {
		return api.ErrSeries
	}
	return s.change(func() api.Errno {
		return s.add(files.Put{Series: series, Point: api.Point{Time: time, Value: value}})
	})
}

// Query tells the points of a series (P5).
func (s *Store) Query(series int, from int, to int) ([]api.Point, api.Errno) {
	s.mutex.Lock()
	defer s.mutex.Unlock()
	if !isSeries(series) {
		return nil, api.ErrSeries
	}
	return s.rows[series].Between(max(from, s.oldest()), to), api.OK
}

// Tick lets time go by (P6).
func (s *Store) Tick(ticks int) api.Errno {
	s.mutex.Lock()
	defer s.mutex.Unlock()
	if ticks < 0 {
		return api.ErrTime
	}
	s.clock = min(s.clock, math.MaxInt-ticks) + ticks
	for i := range s.rows {
		s.rows[i].Forget(s.oldest())
	}
	return api.OK
}

// Sync makes all safe (P7).
func (s *Store) Sync() api.Errno {
	s.mutex.Lock()
	defer s.mutex.Unlock()
	return s.change(s.archive.Sync)
}

// Flush puts all in order on the disk (P8).
func (s *Store) Flush() api.Errno {
	s.mutex.Lock()
	defer s.mutex.Unlock()
	return s.change(func() api.Errno { return s.archive.Flush(s.window) })
}

// Compact makes room (P9).
func (s *Store) Compact() api.Errno {
	s.mutex.Lock()
	defer s.mutex.Unlock()
	return s.change(func() api.Errno { return s.archive.Compact(s.window, s.oldest()) })
}

// State tells how the store is (P10).
func (s *Store) State() api.State {
	s.mutex.Lock()
	defer s.mutex.Unlock()
	return api.State{ReadOnly: s.readOnly, Clock: s.clock}
}

// change lets a call change the disk (P10). Behind a failure none may any more: a log may end within a piece then, and what is added there would not be read.
func (s *Store) change(call func() api.Errno) api.Errno {
	if s.readOnly {
		return api.ErrReadOnly
	}
	e := call()
	s.readOnly = e != api.OK
	return e
}

// add puts a point on the disk, and keeps it if all of it lies there, whatever the disk answered: so Query tells what a later Open will find.
func (s *Store) add(p files.Put) api.Errno {
	took, e := s.archive.Add(p)
	if took {
		s.keep(p)
	}
	return e
}

// keep puts a point where questions find it, unless it is not alive: as the clock does not go back, it never will be.
func (s *Store) keep(p files.Put) {
	if p.Time >= s.oldest() {
		s.rows[p.Series].Put(p.Point)
	}
}

// oldest: the least time at which a point is alive. It is held against times, as time and Life together may be above all Ints.
func (s *Store) oldest() int {
	if s.clock < math.MinInt+s.life {
		return math.MinInt
	}
	return s.clock - s.life + 1
}

func isSeries(series int) bool { return series >= 0 && series < api.MaxSeries }

// isSpan: is it a number for a Life or a Window?
func isSpan(n int) bool { return n >= 1 && n <= api.MaxLife }
