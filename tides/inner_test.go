package tides

import (
	"math"
	"testing"
	"time"

	"tides/api"
	"tides/disk"
	"tides/files"
)

// kept: how many points a store keeps in memory.
func kept(s *Store) int {
	n := 0
	for i := range s.rows {
		n += len(s.rows[i].Between(math.MinInt, math.MaxInt))
	}
	return n
}

// What is told no more is not kept for ever: at most as many points as are alive are kept beside them.
func TestMemoryOfDeadPoints(t *testing.T) {
	s, _ := Open(disk.New(1<<20), api.Config{Life: 10, Window: 5}, 100)
	for i := range 100 {
		s.Put(i%api.MaxSeries, i-9, i)
	}
	if n := kept(s); n != 0 {
		t.Errorf("%d points are kept that never were alive", n)
	}
	for i := range 500 {
		s.Put(3, 100+i, i)
		s.Tick(1)
		if n := kept(s); n > 20 {
			t.Fatalf("%d points are kept behind %d Ticks", n, i)
		}
	}
	s.Tick(10)
	if n := kept(s); n != 0 {
		t.Errorf("%d points are kept, and none is alive", n)
	}
}

// While one call holds the mutex, no other ends.
func TestEachCallWaitsForTheMutex(t *testing.T) {
	s, _ := Open(disk.New(1<<20), api.Config{Life: 10, Window: 5}, 0)
	for name, call := range map[string]func(){
		"Put":     func() { s.Put(0, 0, 0) },
		"Query":   func() { s.Query(0, 0, 0) },
		"Tick":    func() { s.Tick(0) },
		"Sync":    func() { s.Sync() },
		"Flush":   func() { s.Flush() },
		"Compact": func() { s.Compact() },
		"State":   func() { s.State() },
	} {
		ended := make(chan bool)
		s.mutex.Lock()
		go func() { call(); close(ended) }()
		select {
		case <-ended:
			t.Errorf("%s does not wait", name)
		case <-time.After(5 * time.Millisecond):
		}
		s.mutex.Unlock()
		<-ended
	}
}

// A Flush and a Compact make segments for the store's own windows, and keep what is dead as long as its window has something that is alive.
func TestWindowsAreTheStores(t *testing.T) {
	for _, c := range []struct{ window, made, left int }{{1, 3, 2}, {5, 3, 2}, {9, 2, 1}, {10, 2, 2}, {11, 1, 1}, {1 << 62, 1, 1}} {
		d := disk.New(1 << 20)
		s, _ := Open(d, api.Config{Life: 100, Window: c.window}, 0)
		for _, time := range []int{0, 9, 10} {
			s.Put(3, time, time)
		}
		count := func() int {
			n := 0
			for _, name := range d.List() {
				if sort, _ := files.Named(name); sort == files.SegmentSort {
					n++
				}
			}
			return n
		}
		if e := s.Flush(); e != api.OK || count() != c.made {
			t.Errorf("Window %d: Flush = %d makes %d segments, want %d", c.window, e, count(), c.made)
		}
		s.Tick(101) // what has the time 0 is dead
		if e := s.Compact(); e != api.OK || count() != c.left {
			t.Errorf("Window %d: Compact = %d leaves %d segments, want %d", c.window, e, count(), c.left)
		}
		s.Tick(100)
		if e := s.Compact(); e != api.OK || count() != 0 {
			t.Errorf("Window %d: Compact = %d of dead points leaves %d segments", c.window, e, count())
		}
	}
}
