package files

import (
	"slices"
	"strings"
	"testing"

	"tides/api"
	"tides/disk"
)

func inOrder() []Put {
	return slices.SortedFunc(slices.Values(somePuts()), Put.Compare)
}

// with: a disk on which a file has these bytes.
func with(name, text string) *disk.Disk {
	d := disk.New(greatest)
	d.Create(name)
	d.Append(name, text)
	return d
}

func bytesOf(t *testing.T, d *disk.Disk, name string) string {
	t.Helper()
	n, _ := d.Size(name)
	text, e := d.Read(name, 0, n)
	if e != api.OK {
		t.Fatalf("Read(%q) = %d", name, e)
	}
	return text
}

func segmentText(t *testing.T, points []Put) string {
	t.Helper()
	d := disk.New(1000)
	s, e := NewSegment(d, 5, points)
	if e != api.OK || s.Number != 5 || !slices.Equal(s.Points, points) {
		t.Fatalf("NewSegment(%v) = %v, %d", points, s, e)
	}
	return bytesOf(t, d, NameOf(SegmentSort, 5))
}

func indexText(t *testing.T, firstLog int, segments ...int) string {
	t.Helper()
	d := disk.New(1000)
	x, _ := ReadIndex(d)
	if e := x.Turn(firstLog, segments); e != api.OK || !x.Is(firstLog, segments) {
		t.Fatalf("Turn(%d, %v) = %d: %v", firstLog, segments, e, x)
	}
	return bytesOf(t, d, NameOf(IndexSort, 0))
}

func TestCompare(t *testing.T) {
	place := func(series, time, value int) Put {
		return Put{Series: series, Point: api.Point{Time: time, Value: value}}
	}
	l := []Put{place(0, greatest, 3), place(1, least, 2), place(1, -1, 1), place(1, 0, 9), place(1, greatest, 0), place(2, least, 0)}
	for i, p := range l {
		for k, q := range l {
			if got := p.Compare(q); got < 0 != (i < k) || got > 0 != (i > k) {
				t.Errorf("%v.Compare(%v) = %d", p, q, got)
			}
		}
	}
	if place(1, 2, 3).Compare(place(1, 2, 4)) != 0 {
		t.Error("a value is held against another")
	}
}

func TestSegmentGivesBackItsPoints(t *testing.T) {
	for n := range len(somePuts()) + 1 {
		points := inOrder()[:n]
		s, e := ReadSegment(with(NameOf(SegmentSort, 5), segmentText(t, points)), 5)
		if e != api.OK || s.Number != 5 || !slices.Equal(s.Points, points) {
			t.Errorf("ReadSegment of %d points = %v, %d", n, s, e)
		}
	}
}

// What a segment and an index are made of is safe when they are made.
func TestOrderedFilesAreSafe(t *testing.T) {
	d := disk.New(1000)
	NewSegment(d, 7, inOrder())
	x, _ := ReadIndex(d)
	x.Turn(4, []int{7})
	d.Crash(3, nil) // of the bytes nothing that is not safe
	x, e := ReadIndex(d)
	s, f := ReadSegment(d, 7)
	if e != api.OK || f != api.OK || !x.Is(4, []int{7}) || !slices.Equal(s.Points, inOrder()) {
		t.Errorf("behind a crash: %v, %d, %v, %d", x, e, s, f)
	}
}

func TestReadSegmentSeesWhatIsSpoilt(t *testing.T) {
	text := segmentText(t, inOrder())
	refused := func(other string) {
		if s, e := ReadSegment(with(NameOf(SegmentSort, 5), other), 5); s != nil || e != api.ErrCorrupt {
			t.Fatalf("ReadSegment of %q = %v, %d", other, s, e)
		}
	}
	eachTurned(text, refused)
	for n := range text {
		refused(text[:n])
		refused(text + text[n:])
	}
	seal := func(data string) string {
		f := fileOf(nil, SegmentSort, 5)
		return f.seal(data)
	}
	p := inOrder()
	refused(seal(putBytes(p[1]) + putBytes(p[0])))
	refused(seal(putBytes(p[1]) + putBytes(p[1])))
	refused(seal(putBytes(p[0]) + "x"))
	refused(seal(putBytes(p[0]) + putBytes(p[1])[:putSize-1]))
	for _, series := range []int{api.MaxSeries, 128, 255} {
		refused(seal(putBytes(Put{Series: series})))
	}
	if s, e := ReadSegment(with(NameOf(SegmentSort, 6), text), 6); s != nil || e != api.ErrCorrupt {
		t.Errorf("ReadSegment of the segment 5 as 6 = %v, %d", s, e)
	}
	if s, e := ReadSegment(disk.New(0), 5); s != nil || e != api.ErrCorrupt {
		t.Errorf("ReadSegment of none = %v, %d", s, e)
	}
}

func TestIndexGivesBackWhatCounts(t *testing.T) {
	if x, e := ReadIndex(disk.New(0)); e != api.OK || !x.Is(1, nil) {
		t.Errorf("ReadIndex of an empty disk = %v, %d", x, e)
	}
	for _, l := range [][]int{nil, {1}, {lastNumber}, {1, 2, 3}, {7, 100, 1 << 40, lastNumber}} {
		for _, first := range []int{1, 2, lastNumber} {
			x, e := ReadIndex(with(NameOf(IndexSort, 0), indexText(t, first, l...)))
			if e != api.OK || !x.Is(first, l) || x.Is(first+1, l) || x.Is(first, append([]int{0}, l...)) {
				t.Errorf("ReadIndex of %d, %v = %v, %d", first, l, x, e)
			}
		}
	}
}

func TestIndexTurnsAgain(t *testing.T) {
	d := disk.New(1000)
	x, _ := ReadIndex(d)
	for i := 1; i < 5; i++ {
		if e := x.Turn(i, []int{i, i + 1}); e != api.OK {
			t.Fatalf("Turn %d = %d", i, e)
		}
		if y, e := ReadIndex(d); e != api.OK || !y.Is(i, []int{i, i + 1}) || len(d.List()) != 1 {
			t.Fatalf("behind Turn %d: %v, %d; on the disk are %v", i, y, e, d.List())
		}
		x, _ = ReadIndex(d)
	}
}

func TestReadIndexSeesWhatIsSpoilt(t *testing.T) {
	refused := func(other string) {
		if x, e := ReadIndex(with(NameOf(IndexSort, 0), other)); x != nil || e != api.ErrCorrupt {
			t.Fatalf("ReadIndex of %q = %v, %d", other, x, e)
		}
	}
	text := indexText(t, 3, 4, 9)
	eachTurned(text, refused)
	for n := range text {
		refused(text[:n])
		refused(text + text[n:])
	}
	seal := func(numbers ...int) string {
		f, data := fileOf(nil, IndexSort, 0), ""
		for _, n := range numbers {
			data += intBytes(n)
		}
		return f.seal(data)
	}
	refused(seal())
	for _, n := range []int{0, -1, least, lastNumber + 1, greatest} {
		refused(seal(n))
		refused(seal(1, n))
		refused(seal(1, 2, n))
	}
	refused(seal(1, 2, 2))
	refused(seal(1, 3, 2))
	f := fileOf(nil, IndexSort, 0)
	refused(f.seal(intBytes(1) + "x"))
	refused(f.seal(strings.Repeat("x", 7)))
}

// An index that could not be turned is as it was, on the disk too.
func TestTurnFails(t *testing.T) {
	text := indexText(t, 3, 4)
	calls := 0
	for n := 1; ; n++ {
		d := with(NameOf(IndexSort, 0), text)
		x, _ := ReadIndex(d)
		d.Fail(n, n)
		e := x.Turn(5, []int{6})
		y, _ := ReadIndex(d)
		if e == api.OK {
			break
		}
		calls++
		if e != api.ErrIO || !x.Is(3, []int{4}) || !y.Is(3, []int{4}) {
			t.Errorf("Turn with call %d failing = %d: %v, on the disk %v", n, e, x, y)
		}
	}
	if calls != 4 { // Create, Append, Sync and Rename of a draft
		t.Errorf("%d calls", calls)
	}
}

func TestNewSegmentFails(t *testing.T) {
	for n := 1; n <= 3; n++ { // Create, Append and Sync
		d := disk.New(1000)
		d.Fail(n, 5)
		if s, e := NewSegment(d, 1, inOrder()); s != nil || e != api.ErrIO {
			t.Errorf("NewSegment with call %d failing = %v, %d", n, s, e)
		}
	}
	if s, e := NewSegment(disk.New(20), 1, inOrder()); s != nil || e != api.ErrFull {
		t.Errorf("NewSegment on a full disk = %v, %d", s, e)
	}
}
