package tides

import (
	"math"
	"testing"
	"time"

	"tides/api"
	"tides/disk"
)

// kept: how many points a store keeps in memory.
func kept(s *Store) int {
	n := 0
	for i := range s.rows {
		n += len(s.rows[i].Between(math.MinInt, math.MaxInt))
	}
	return n
}

// What is told no more is not kept for ever: at most as many points as are alive are kept beside them.
func TestMemoryOfDeadPoints(t *testing.T) {
	s, _ := Open(disk.New(1<<20), api.Config{Life: 10, Window: 5}, 100)
	for i := range 100 {
		s.Put(i%api.MaxSeries, i-9, i)
	}
	if n := kept(s); n != 0 {
		t.Errorf("%d points are kept that never were alive", n)
	}
	for i := range 500 {
		s.Put(3, 100+i, i)
		s.Tick(1)
		if n := kept(s); n > 20 {
			t.Fatalf("%d points are kept behind %d Ticks", n, i)
		}
	}
	s.Tick(10)
	if n := kept(s); n != 0 {
		t.Errorf("%d points are kept, and none is alive", n)
	}
}

// While one call holds the mutex, no other ends.
func TestEachCallWaitsForTheMutex(t *testing.T) {
	s, _ := Open(disk.New(1<<20), api.Config{Life: 10, Window: 5}, 0)
	for name, call := range map[string]func(){
		"Put":     func() { s.Put(0, 0, 0) },
		"Query":   func() { s.Query(0, 0, 0) },
		"Tick":    func() { s.Tick(0) },
		"Sync":    func() { s.Sync() },
		"Flush":   func() { s.Flush() },
		"Compact": func() { s.Compact() },
		"State":   func() { s.State() },
	} {
		ended := make(chan bool)
		s.mutex.Lock()
		go func() { call(); close(ended) }()
		select {
		case <-ended:
			t.Errorf("%s does not wait", name)
		case <-time.After(5 * time.Millisecond):
		}
		s.mutex.Unlock()
		<-ended
	}
}
