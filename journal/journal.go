// Package journal: the Puts that came last, in the order in which they were made, in logs that follow one another.
package journal

import (
	"tides/api"
	"tides/disk"
	"tides/files"
)

// Journal: each one adds to a log of its own. The logs that lay there may end within a Put, and what is behind such an end is not to be read.
type Journal struct {
	disk *disk.Disk
	logs []int // the numbers of those that count
	last int   // the greatest number that was given
	puts int   // in all logs that lay there
	own  *files.Log
}

// Open gives the journal of a disk on which the logs from a number on count, and the Puts that it has. It changes nothing on the disk: so a disk that is full can still be asked. All logs that lie there are to be safe ahead of the first Add: else a crash could take Puts out of them, and leave later ones.
func Open(d *disk.Disk, first int) (*Journal, []files.Put, api.Errno) {
	j := &Journal{disk: d, last: first - 1}
	for _, name := range d.List() {
		if sort, number := files.Named(name); sort == files.LogSort && number >= first {
			j.logs = append(j.logs, number)
			j.last = number
		}
	}
	puts, e := j.Puts()
	if e != api.OK {
		return nil, nil, e
	}
	j.puts = len(puts)
	return j, puts, api.OK
}

// Puts reads all Puts of the journal from the disk: so they need not be kept in memory.
func (j *Journal) Puts() ([]files.Put, api.Errno) {
	var all []files.Put
	for _, number := range j.logs {
		puts, e := files.ReadLog(j.disk, number, len(all))
		if e != api.OK {
			return nil, e
		}
		all = append(all, puts...)
	}
	return all, api.OK
}

// Add adds a Put, and tells whether the journal has it: it may, though the disk failed. Behind a failure nothing more is to be added.
func (j *Journal) Add(p files.Put) (bool, api.Errno) {
	if j.own == nil {
		if e := j.begin(); e != api.OK {
			return false, e
		}
	}
	return j.own.Add(p)
}

// begin makes the journal's own log.
func (j *Journal) begin() api.Errno {
	own, e := files.NewLog(j.disk, j.Next(), j.puts)
	if e != api.OK {
		return e
	}
	j.own = own
	j.last++
	j.logs = append(j.logs, j.last)
	return api.OK
}

// Sync makes all that was added safe.
func (j *Journal) Sync() api.Errno {
	if j.own == nil {
		return api.OK
	}
	return j.own.Sync()
}

// Logs gives the numbers of all logs that the journal has.
func (j *Journal) Logs() []int { return append([]int(nil), j.logs...) }

// Next: the number from which on logs will count when those that lie there do no more.
func (j *Journal) Next() int { return j.last + 1 }

// Leave lets all Puts go: they lie elsewhere now.
func (j *Journal) Leave() {
	j.logs, j.puts, j.own = nil, 0, nil
}
