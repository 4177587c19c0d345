// Package files: the files of a store. A file is a row of pieces, each with a sum behind it.
package files

import (
	"tides/api"
	"tides/disk"
)

// file: what files of all sorts have in common. The sum is of the name and of all pieces so far: so a piece that is spoilt, in another's place or in another file does not pass.
type file struct {
	disk *disk.Disk
	name string
	sum  uint32
}

func fileOf(d *disk.Disk, s Sort, number int) file {
	name := NameOf(s, number)
	return file{disk: d, name: name, sum: addSum(firstSum, name)}
}

func (f *file) create() api.Errno { return f.disk.Create(f.name) }

// Sync makes all of the file safe.
func (f *file) Sync() api.Errno { return f.disk.Sync(f.name) }

// add adds a piece, and tells whether all of it is there: it may be, though the disk failed.
func (f *file) add(data string) (bool, api.Errno) {
	piece := f.seal(data)
	before, _ := f.disk.Size(f.name)
	e := f.disk.Append(f.name, piece)
	after, _ := f.disk.Size(f.name)
	return after-before == len(piece), e
}

// write makes a file of one piece, and makes it safe. (The sum goes on in a copy: the next to write or read begins anew.)
func (f file) write(data string) api.Errno {
	if e := f.create(); e != api.OK {
		return e
	}
	if _, e := f.add(data); e != api.OK {
		return e
	}
	return f.Sync()
}

// all reads the whole file.
func (f *file) all() (string, api.Errno) {
	n, e := f.disk.Size(f.name)
	if e != api.OK {
		return "", e
	}
	return f.disk.Read(f.name, 0, n)
}

// read gives the data of a file of one piece.
func (f file) read() (string, api.Errno) {
	text, e := f.all()
	if e != api.OK {
		return "", e
	}
	if data, ok := f.unseal(text); ok {
		return data, api.OK
	}
	return "", api.ErrCorrupt
}

func (f *file) seal(data string) string {
	f.sum = addSum(f.sum, data)
	return data + sumBytes(f.sum)
}

// unseal gives the data of a piece, and tells whether it is as it was written.
func (f *file) unseal(piece string) (string, bool) {
	if len(piece) < sumSize {
		return "", false
	}
	data, sum := piece[:len(piece)-sumSize], piece[len(piece)-sumSize:]
	return data, f.seal(data) == data+sum
}
