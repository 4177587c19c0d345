package files

import (
	"slices"
	"strings"
	"testing"

	"tides/api"
	"tides/disk"
)

const least, greatest = -1 << 63, 1<<63 - 1

func somePuts() []Put {
	return []Put{
		{Series: 0, Point: api.Point{Time: least, Value: greatest}},
		{Series: 7, Point: api.Point{Time: greatest, Value: least}},
		{Series: 3, Point: api.Point{Time: -1, Value: 0}},
		{Series: 3, Point: api.Point{Time: 0x0102030405060708, Value: -0x0102030405060708}},
	}
}

func logWith(t *testing.T, d *disk.Disk, number, ahead int, puts ...Put) string {
	t.Helper()
	l, e := NewLog(d, number, ahead)
	if e != api.OK {
		t.Fatalf("NewLog(%d, %d) = %d", number, ahead, e)
	}
	for _, p := range puts {
		if took, e := l.Add(p); !took || e != api.OK {
			t.Fatalf("Add(%+v) = %v, %d", p, took, e)
		}
	}
	text, _ := l.all()
	return text
}

// diskWith: a disk on which the log of a number has these bytes.
func diskWith(number int, text string) *disk.Disk {
	d := disk.New(greatest)
	d.Create(NameOf(LogSort, number))
	d.Append(NameOf(LogSort, number), text)
	return d
}

func TestNames(t *testing.T) {
	for _, sort := range []Sort{LogSort, SegmentSort} {
		for _, n := range []int{1, 9, 10, 1234, 1<<62 - 1, 1 << 62} {
			if s, k := Named(NameOf(sort, n)); s != sort || k != n {
				t.Errorf("Named of %d of the sort %d = %d, %d", n, sort, s, k)
			}
		}
		if a, b := NameOf(sort, 9), NameOf(sort, 10); a >= b {
			t.Errorf("names out of order: %q, %q", a, b)
		}
		for _, n := range []int{1<<62 + 1, greatest} {
			if name := NameOf(sort, n); len(name) != 1+nameDigits || name <= NameOf(sort, 1<<62) {
				t.Errorf("the name of %d is %q", n, name)
			}
		}
	}
	for _, sort := range []Sort{IndexSort, DraftSort} {
		if s, k := Named(NameOf(sort, 0)); s != sort || k != 0 || NameOf(sort, 7) != NameOf(sort, 0) {
			t.Errorf("Named of the only one of the sort %d = %d, %d", sort, s, k)
		}
	}
	zeros := strings.Repeat("0", 18)
	for _, name := range []string{"", "l", "l1", "1", "x" + zeros + "1", zeros + "01", "L" + zeros + "1", "l" + zeros + "0", "l" + zeros + "01", "l" + zeros[1:] + "1", "l+" + zeros[1:] + "1", "l-" + zeros[1:] + "1", "l" + zeros + "x", "ll" + zeros + "1", "l" + zeros + "1 ", "l4611686018427387905", "l9999999999999999999", "s", "s0", "s" + zeros + "0", "s4611686018427387905", "S" + zeros + "1", "i0", "i1", "i" + zeros + "1", "I", "ii", "id", "d0", "d" + zeros + "1", "D", " i", "i "} {
		if s, k := Named(name); s != NoSort || k != 0 {
			t.Errorf("Named(%q) = %d, %d", name, s, k)
		}
	}
}

func TestSumIsTheKnownOne(t *testing.T) {
	if got := ^addSum(firstSum, "123456789"); got != 0xCBF43926 {
		t.Errorf("sum = %x", got)
	}
	if addSum(addSum(firstSum, "1234"), "56789") != addSum(firstSum, "123456789") {
		t.Error("a sum does not go on")
	}
}

func TestLogGivesBackItsPuts(t *testing.T) {
	for n := range len(somePuts()) + 1 {
		d := disk.New(1000)
		puts := somePuts()[:n]
		logWith(t, d, 5, 77, puts...)
		if got, e := ReadLog(d, 5, 77); e != api.OK || !slices.Equal(got, puts) {
			t.Errorf("ReadLog of %d = %v, %d", n, got, e)
		}
		for _, ahead := range []int{0, 76, 78, -77} {
			if got, e := ReadLog(d, 5, ahead); got != nil || e != api.ErrCorrupt {
				t.Errorf("ReadLog behind %d = %v, %d", ahead, got, e)
			}
		}
	}
}

func TestReadLogPassesOverATornEnd(t *testing.T) {
	text := logWith(t, disk.New(1000), 1, 0, somePuts()...)
	for n := range len(text) + 1 {
		got, e := ReadLog(diskWith(1, text[:n]), 1, 0)
		want := somePuts()[:max(n-headPiece, 0)/putPiece]
		if e != api.OK || !slices.Equal(got, want) {
			t.Errorf("ReadLog of %d bytes = %v, %d", n, got, e)
		}
	}
}

// turned: text with the bits of a pattern turned, from a bit on.
func turned(text string, at int, pattern uint32) string {
	b := []byte(text)
	for i := range 32 {
		if k := at + i; pattern>>i&1 == 1 && k < 8*len(b) {
			b[k/8] ^= 1 << (k % 8)
		}
	}
	return string(b)
}

// eachTurned gives a text with bits turned that lie within a row of 32, in many ways, from each bit on.
func eachTurned(text string, check func(other string)) {
	patterns := []uint32{1, 3, 0x80000001, 0xFFFFFFFF, polynomial | 1, polynomial>>1 | 1}
	for p, i := uint32(12345), 0; i < 60; i++ {
		p = p*1664525 + 1013904223
		patterns = append(patterns, p|1)
	}
	for at := range 8 * len(text) {
		for _, p := range patterns {
			check(turned(text, at, p))
		}
	}
}

func TestReadLogSeesTurnedBits(t *testing.T) {
	text := logWith(t, disk.New(1000), 1, 0, somePuts()...)
	eachTurned(text, func(other string) {
		if got, e := ReadLog(diskWith(1, other), 1, 0); got != nil || e != api.ErrCorrupt {
			t.Fatalf("ReadLog of %q = %v, %d", other, got, e)
		}
	})
}

func TestReadLogRefusesWhatIsNotItsOwn(t *testing.T) {
	text := logWith(t, disk.New(1000), 1, 0, somePuts()...)
	other := logWith(t, disk.New(1000), 1, 0, somePuts()[1:]...)
	piece := func(text string, i int) string { return text[headPiece+i*putPiece:][:putPiece] }
	strange := Log{file: logOf(nil, 1).file}
	for what, bytes := range map[string]string{
		"zeros":               strings.Repeat("\x00", 100),
		"another's piece":     text[:headPiece+putPiece] + piece(other, 2),
		"a piece twice":       text[:headPiece+putPiece] + piece(text, 0),
		"pieces out of order": text[:headPiece] + piece(text, 1) + piece(text, 0),
		"no head":             text[headPiece:],
		"a series too many":   strange.seal(intBytes(0)) + strange.seal(putBytes(Put{Series: api.MaxSeries})),
	} {
		if got, e := ReadLog(diskWith(1, bytes), 1, 0); got != nil || e != api.ErrCorrupt {
			t.Errorf("ReadLog of %s = %v, %d", what, got, e)
		}
	}
	if got, e := ReadLog(diskWith(2, text), 2, 0); got != nil || e != api.ErrCorrupt {
		t.Errorf("ReadLog of the log 1 as log 2 = %v, %d", got, e)
	}
}

func TestAddTellsWhatTheLogHas(t *testing.T) {
	p := somePuts()[0]
	for part := range putPiece {
		d := disk.New(1000)
		l, _ := NewLog(d, 1, 0)
		d.Fail(1, part)
		if took, e := l.Add(p); took || e != api.ErrIO {
			t.Errorf("Add of %d bytes = %v, %d", part, took, e)
		}
		if got, e := ReadLog(d, 1, 0); len(got) != 0 || e != api.OK {
			t.Errorf("ReadLog behind it = %v, %d", got, e)
		}
	}
	d := disk.New(headPiece + putPiece - 1)
	l, _ := NewLog(d, 1, 0)
	if took, e := l.Add(p); took || e != api.ErrFull {
		t.Errorf("Add on a full disk = %v, %d", took, e)
	}
	d = disk.New(1000)
	l, _ = NewLog(d, 1, 0)
	d.Cut(1)
	took, e := l.Add(p)
	if got, _ := ReadLog(d, 1, 0); took != (len(got) == 1) || e != api.ErrIO {
		t.Errorf("Add when the power is cut = %v, %d; the log has %v", took, e, got)
	}
}

func TestNewLogFails(t *testing.T) {
	for n := 1; n <= 2; n++ {
		d := disk.New(1000)
		d.Fail(n, 5)
		if l, e := NewLog(d, 1, 0); l != nil || e != api.ErrIO {
			t.Errorf("NewLog with call %d failing = %v, %d", n, l, e)
		}
	}
	if l, e := NewLog(disk.New(headPiece-1), 1, 0); l != nil || e != api.ErrFull {
		t.Errorf("NewLog on a full disk = %v, %d", l, e)
	}
	d := disk.New(1000)
	if got, e := ReadLog(d, 1, 0); got != nil || e != api.ErrName {
		t.Errorf("ReadLog of none = %v, %d", got, e)
	}
}
