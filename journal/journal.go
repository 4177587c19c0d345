// Package journal: all Puts of a disk, in the order in which they were made, in logs that follow one another.
package journal

import (
	"tides/api"
	"tides/disk"
	"tides/files"
)

// Journal: each one adds to a log of its own. The logs that lay there may end within a Put, and what is behind such an end is not to be read.
type Journal struct {
	disk *disk.Disk
	last int // the number of the newest log; 0: there is none
	puts int // in all logs that lay there
	own  *files.Log
}

// Open gives the journal of a disk, and the Puts that it has. It changes nothing on the disk: so a disk that is full can still be asked.
func Open(d *disk.Disk) (*Journal, []files.Put, api.Errno) {
	j := &Journal{disk: d}
	var all []files.Put
	for _, name := range d.List() {
		sort, number := files.Named(name)
		if sort != files.LogSort {
			return nil, nil, api.ErrCorrupt
		}
		puts, e := files.ReadLog(d, number, len(all))
		if e != api.OK {
			return nil, nil, e
		}
		all = append(all, puts...)
		j.last = number
	}
	j.puts = len(all)
	return j, all, api.OK
}

// Add adds a Put, and tells whether the journal has it: it may, though the disk failed. Behind a failure nothing more is to be added.
func (j *Journal) Add(p files.Put) (bool, api.Errno) {
	if j.own == nil {
		if e := j.begin(); e != api.OK {
			return false, e
		}
	}
	return j.own.Add(p)
}

// begin makes the journal's own log. The log ahead is synced first: else a crash could take Puts out of it, and leave later ones here.
func (j *Journal) begin() api.Errno {
	if j.last > 0 {
		if e := files.SyncLog(j.disk, j.last); e != api.OK {
			return e
		}
	}
	own, e := files.NewLog(j.disk, j.last+1, j.puts)
	j.own = own
	return e
}
