package files

import (
	"tides/api"
	"tides/disk"
)

const (
	headPiece = intSize + sumSize
	putPiece  = putSize + sumSize
)

// Log: Puts in the order in which they were made, all pieces of one size: so where a piece begins hangs on no byte that may be spoilt. The first piece tells how many Puts the logs ahead of this one have: so one that has lost some does not pass for whole.
type Log struct {
	file
}

func logOf(d *disk.Disk, number int) *Log {
	return &Log{file: fileOf(d, LogSort, number)}
}

// NewLog makes the log of a number, behind logs that have so many Puts.
func NewLog(d *disk.Disk, number int, ahead int) (*Log, api.Errno) {
	l := logOf(d, number)
	if e := l.create(); e != api.OK {
		return nil, e
	}
	if _, e := l.add(intBytes(ahead)); e != api.OK {
		return nil, e
	}
	return l, api.OK
}

// Add adds a Put, and tells whether the log has it: it may, though the disk failed.
func (l *Log) Add(p Put) (bool, api.Errno) {
	return l.add(putBytes(p))
}

// ReadLog gives the Puts of the log of a number, behind logs that have so many Puts. A piece that lacks its end is the last of its log, and never took effect: it is passed over.
func ReadLog(d *disk.Disk, number int, ahead int) ([]Put, api.Errno) {
	l := logOf(d, number)
	text, e := l.all()
	if e != api.OK || len(text) < headPiece {
		return nil, e
	}
	if head, ok := l.unseal(text[:headPiece]); !ok || intOf(head) != ahead {
		return nil, api.ErrCorrupt
	}
	var puts []Put
	for text = text[headPiece:]; len(text) >= putPiece; text = text[putPiece:] {
		data, whole := l.unseal(text[:putPiece])
		p, ok := putOf(data)
		if !whole || !ok {
			return nil, api.ErrCorrupt
		}
		puts = append(puts, p)
	}
	return puts, api.OK
}
