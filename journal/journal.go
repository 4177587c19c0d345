// Package journal: all Puts of a disk, in the order in which they were made, in logs that follow one another.
package journal

import (
	"tides/api"
	"tides/disk"
	"tides/files"
)

// Journal: each one adds to a log of its own. The logs that lay there may end within a Put, and what is behind such an end is not to be read.
type Journal struct {
	disk  *disk.Disk
	loose []int // the numbers of the logs that lay there, till they are synced
	last  int   // the number of the newest of them; 0: there was none
	puts  int   // in all of them
	own   *files.Log
}

// Open gives the journal of a disk, and the Puts that it has. It changes nothing on the disk: so a disk that is full can still be asked.
func Open(d *disk.Disk) (*Journal, []files.Put, api.Errno) {
	j := &Journal{disk: d}
	var all []files.Put
	for _, name := range d.List() {
		sort, number := files.Named(name)
		if sort != files.LogSort {
			return nil, nil, api.ErrCorrupt
		}
		puts, e := files.ReadLog(d, number, len(all))
		if e != api.OK {
			return nil, nil, e
		}
		all = append(all, puts...)
		j.loose = append(j.loose, number)
		j.last = number
	}
	j.puts = len(all)
	return j, all, api.OK
}

// Add adds a Put, and tells whether the journal has it: it may, though the disk failed. Behind a failure nothing more is to be added.
func (j *Journal) Add(p files.Put) (bool, api.Errno) {
	if j.own == nil {
		if e := j.begin(); e != api.OK {
			return false, e
		}
	}
	return j.own.Add(p)
}

// Sync makes all Puts safe that the journal has, and the names of their logs.
func (j *Journal) Sync() api.Errno {
	if e := j.settle(); e != api.OK {
		return e
	}
	if j.own != nil {
		if e := j.own.Sync(); e != api.OK {
			return e
		}
	}
	return j.disk.SyncDir()
}

// begin makes the journal's own log. What lay there is settled first: else a crash could take Puts out of it, and leave later ones here.
func (j *Journal) begin() api.Errno {
	if e := j.settle(); e != api.OK {
		return e
	}
	own, e := files.NewLog(j.disk, j.last+1, j.puts)
	j.own = own
	return e
}

// settle makes all logs that lay there safe: no byte of them tells whether they are, and on a disk that is a copy of another none may be.
func (j *Journal) settle() api.Errno {
	for _, number := range j.loose {
		if e := files.SyncLog(j.disk, number); e != api.OK {
			return e
		}
	}
	j.loose = nil
	return api.OK
}
