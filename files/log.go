package files

import (
	"tides/api"
	"tides/disk"
)

// Put: a point as it was put.
type Put struct {
	Series int
	api.Point
}

const (
	headSize = intSize + sumSize
	putSize  = 1 + 2*intSize + sumSize
)

// Log: Puts in the order in which they were made, all pieces of one size: so where a piece begins hangs on no byte that may be spoilt. The first piece tells how many Puts the logs ahead of this one have: so one that has lost some does not pass for whole.
type Log struct {
	file
}

func logOf(d *disk.Disk, number int) *Log {
	return &Log{file: fileOf(d, LogSort, number)}
}

// NewLog makes the log of a number, behind logs that have so many Puts.
func NewLog(d *disk.Disk, number int, ahead int) (*Log, api.Errno) {
	l := logOf(d, number)
	if e := l.create(); e != api.OK {
		return nil, e
	}
	if _, e := l.add(intBytes(ahead)); e != api.OK {
		return nil, e
	}
	return l, api.OK
}

// Add adds a Put, and tells whether the log has it: it may, though the disk failed.
func (l *Log) Add(p Put) (bool, api.Errno) {
	return l.add(putBytes(p))
}

// SyncLog makes all of the log of a number safe.
func SyncLog(d *disk.Disk, number int) api.Errno {
	return logOf(d, number).Sync()
}

// ReadLog gives the Puts of the log of a number, behind logs that have so many Puts. A piece that lacks its end is the last of its log, and never took effect: it is passed over.
func ReadLog(d *disk.Disk, number int, ahead int) ([]Put, api.Errno) {
	l := logOf(d, number)
	text, e := l.all()
	if e != api.OK || len(text) < headSize {
		return nil, e
	}
	if head, ok := l.unseal(text[:headSize]); !ok || intOf(head) != ahead {
		return nil, api.ErrCorrupt
	}
	var puts []Put
	for text = text[headSize:]; len(text) >= putSize; text = text[putSize:] {
		data, ok := l.unseal(text[:putSize])
		p := putOf(data)
		if !ok || p.Series >= api.MaxSeries {
			return nil, api.ErrCorrupt
		}
		puts = append(puts, p)
	}
	return puts, api.OK
}

func putBytes(p Put) string {
	return string([]byte{byte(p.Series)}) + intBytes(p.Time) + intBytes(p.Value)
}

func putOf(data string) Put {
	return Put{Series: int(data[0]), Point: api.Point{Time: intOf(data[1:]), Value: intOf(data[1+intSize:])}}
}
