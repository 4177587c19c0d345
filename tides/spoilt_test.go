package tides_test

import (
	"cmp"
	"encoding/binary"
	"hash/crc32"
	"math/rand"
	"slices"
	"strconv"
	"strings"
	"testing"

	"tides/api"
	"tides/disk"
	"tides/tides"
)

// with: a copy of a disk on which a file has other bytes.
func with(d *disk.Disk, name, text string) *disk.Disk {
	other := disk.New(20000)
	for _, n := range d.List() {
		other.Create(n)
		if n == name {
			other.Append(n, text)
			continue
		}
		other.Append(n, bytesOf(d, n))
	}
	return other
}

func bytesOf(d *disk.Disk, name string) string {
	n, _ := d.Size(name)
	text, _ := d.Read(name, 0, n)
	return text
}

// turned: a text with the bits of a pattern turned, from a bit on, as far as it goes.
func turned(text string, at int, pattern uint32) string {
	b := []byte(text)
	for i := range 32 {
		if k := at + i; pattern>>i&1 == 1 && k < 8*len(b) {
			b[k/8] ^= 1 << (k % 8)
		}
	}
	return string(b)
}

// spoilt opens a disk on which bits of a file were turned: it is refused, or has what the first so many Puts have made, and works. It tells whether it was refused.
func (r *run) spoilt(d *disk.Disk, what string, more string) bool {
	r.Helper()
	n := r.other(d)
	n.room = 20000
	before := lies(d)
	s, e := tides.Open(d, api.Config{Life: life, Window: 7}, r.clock)
	if s == nil && e == api.ErrCorrupt {
		if lies(d) != before {
			r.Fatalf("P1: %s: a disk that is refused is changed", what)
		}
		return true
	}
	if s == nil || e != api.OK {
		r.Fatalf("P12: %s: Open = %v, %d", what, s, e)
	}
	n.s, n.window = s, 7
	got := n.tells()
	for k := len(r.puts); k >= 0; k-- {
		if got == made(r.puts[:k], r.clock) {
			n.puts, n.safe = n.puts[:k], 0
			n.does(more)
			return false
		}
	}
	r.Fatalf("P12: %s: %s, behind %v", what, got, r.puts)
	return false
}

// leftovers: disks with files that do not count beside those that do, as a power cut within a Flush or a Compact leaves them.
func leftovers(t *testing.T) []*run {
	var all []*run
	seen := map[string]bool{}
	for _, script := range []string{"opqfpc", "opqfqfpqcq"} {
		eachCut(func() *run { return begin(t, 10000) }, script, func(r *run) {
			for dirs := range 12 {
				c := crashed(r.d, dirs, []int{13, 13, 13, 13, 13, 13, 13, 13})
				if text := lies(c); !seen[text] {
					seen[text] = true
					n := r.behind(c)
					n.safe = 0
					all = append(all, n)
				}
			}
		})
	}
	return all
}

// Bits of each file are turned, at each place.
func TestP12TurnedBits(t *testing.T) {
	runs := leftovers(t)
	for _, script := range slices.Concat(scripts, orderly, []string{"oqqqqqfqqqqopqcqqqfqqopp"}) {
		r := begin(t, 10000)
		r.does(script)
		runs = append(runs, r)
	}
	x := rand.New(rand.NewSource(12))
	refused, given := 0, 0
	for _, r := range runs {
		for _, name := range r.d.List() {
			text := bytesOf(r.d, name)
			for at := range 8 * len(text) {
				for _, pattern := range []uint32{1, 3, 0x80000001, 0xFFFFFFFF, 0xEDB88321, x.Uint32() | 1, x.Uint32() | 1} {
					if r.spoilt(with(r.d, name, turned(text, at, pattern)), name, []string{"", "pfqc", "cqp", "qs"}[at%4]) {
						refused++
					} else {
						given++
					}
				}
			}
		}
	}
	if refused < 1000 || given < 1000 {
		t.Errorf("%d disks are refused, and %d are not: too few", refused, given)
	}
}

// What is turned in a file that counts is not passed over: Open does not give an older store where it can know.
func TestP12TurnedBitsOfWhatCountsAreSeen(t *testing.T) {
	r := begin(t, 10000)
	r.does("oppfpqfqq")
	for _, name := range r.d.List() {
		text := bytesOf(r.d, name)
		for at := range 8 * len(text) {
			if !r.spoilt(with(r.d, name, turned(text, at, 1)), name, "") {
				t.Fatalf("bit %d of %s is turned, and Open is OK", at, name)
			}
		}
	}
}

// One file has a piece too few, or is gone: of this nothing is promised but that Open answers.
func TestP12PiecesAreMissing(t *testing.T) {
	for _, script := range []string{"oppfpqfqq", "oqqqcpop"} {
		r := begin(t, 10000)
		r.does(script)
		for _, name := range r.d.List() {
			text := bytesOf(r.d, name)
			for n := range len(text) + 1 {
				r.works(with(r.d, name, text[:n]), "pfqcs")
				r.works(with(r.d, name, text[n:]), "pfqcs")
				r.works(with(r.d, name, text+text[n:]), "pfqcs")
			}
			for _, other := range r.d.List() {
				d := with(r.d, "", "")
				d.Rename(name, other)
				r.works(d, "pfqcs")
			}
			d := with(r.d, "", "")
			d.Remove(name)
			r.works(d, "pfqcs")
		}
	}
}

// works opens a disk on which anything lies: it is refused, or gives a store that keeps P4 to P8 and P10, and whose Compact is OK. It tells whether it was refused.
func (r *run) works(d *disk.Disk, script string) bool {
	r.Helper()
	s, e := tides.Open(d, api.Config{Life: life, Window: 3}, r.clock)
	if (s == nil) != (e != api.OK) || e != api.OK && e != api.ErrCorrupt {
		r.Fatalf("P12: Open = %v, %d", s, e)
	}
	if s == nil {
		return true
	}
	n := r.other(d)
	n.s, n.window, n.puts = s, 1<<62, nil // (of how many bytes it has nothing is promised)
	for k := range api.MaxSeries {
		l, _ := s.Query(k, least, greatest)
		for _, p := range l {
			n.puts = append(n.puts, aPut{series: k, time: p.Time, value: p.Value})
		}
	}
	n.room = 1 << 40
	n.does(script)
	if n.readOnly {
		r.Fatal("P12: read-only")
	}
	again, e := tides.Open(d, api.Config{Life: life, Window: 3}, r.clock)
	if (again == nil) != (e != api.OK) || e != api.OK && e != api.ErrCorrupt {
		r.Fatalf("P12: a later Open = %v, %d", again, e)
	}
	return false
}

// strangeNames: those of a store's own files, at the ends of their numbers too, and others.
var strangeNames = []string{"i", "d", "l0000000000000000001", "l0000000000000000002", "l0000000000000000003", "l4611686018427387903", "l4611686018427387904", "s0000000000000000001", "s0000000000000000002", "s0000000000000000003", "s4611686018427387903", "s4611686018427387904", "l4611686018427387905", "s9223372036854775807", "l9223372036854775808", "l0000000000000000000", "s-000000000000000001", "s", "l", "i0", "x", "M", "manifest", "\x00", "ü", strings.Repeat("l", 300)}

// numbers that a file may tell.
var numbers = []int{1, 2, 3, 4, 0, -1, 5, 100, 1<<62 - 1, 1 << 62, 1<<62 + 1, greatest, greatest - 1, least, least + 1, 1 << 40}

func eight(n int) string { return string(binary.LittleEndian.AppendUint64(nil, uint64(n))) }

// sealed: pieces, each with the sum that a file of this name has behind it.
func sealed(name string, pieces ...string) string {
	text, all := "", name
	for _, p := range pieces {
		all += p
		text += p + string(binary.LittleEndian.AppendUint32(nil, ^crc32.ChecksumIEEE([]byte(all))))
	}
	return text
}

// aPoint: as a file has it; now and then of no series, or at an end of the Ints.
func aPoint(x *rand.Rand) string {
	series, time := x.Intn(api.MaxSeries), x.Intn(60)-30
	if x.Intn(40) == 0 {
		series = x.Intn(256)
	}
	if x.Intn(4) == 0 {
		time = edges[x.Intn(len(edges))]
	}
	return string([]byte{byte(series)}) + eight(time) + eight(x.Intn(100))
}

// inOrder: points in their order, as a text.
func inOrder(l []string) string {
	slices.SortFunc(l, func(p, q string) int {
		a, b := int(binary.LittleEndian.Uint64([]byte(p[1:]))), int(binary.LittleEndian.Uint64([]byte(q[1:])))
		return cmp.Or(cmp.Compare(p[0], q[0]), cmp.Compare(a, b))
	})
	return strings.Join(l, "")
}

func somePoints(x *rand.Rand, n int) []string {
	var l []string
	for range x.Intn(n) {
		l = append(l, aPoint(x))
	}
	return l
}

func aNumber(x *rand.Rand) int {
	if x.Intn(3) == 0 {
		return numbers[x.Intn(len(numbers))]
	}
	return x.Intn(4)
}

// strangeBytes: what a file of a name might have: anything, or pieces whose sums are right, and whose numbers are any.
func strangeBytes(x *rand.Rand, name string) string {
	var pieces []string
	switch x.Intn(8) {
	case 0:
		b := make([]byte, x.Intn(80))
		x.Read(b)
		return string(b)
	case 1, 2, 3: // a log
		pieces = append([]string{eight(aNumber(x))}, somePoints(x, 4)...)
	case 4, 5: // a segment
		pieces = append(pieces, inOrder(somePoints(x, 4)))
	default: // an index
		text := ""
		for range 1 + x.Intn(4) {
			text += eight(aNumber(x))
		}
		pieces = append(pieces, text)
	}
	text := sealed(name, pieces...)
	if x.Intn(6) == 0 {
		text = text[:x.Intn(len(text)+1)]
	}
	return text
}

// strangeFile: a name, and bytes that have a length such as a file of this name may have, more often than not.
func strangeFile(x *rand.Rand) (string, string) {
	name := strangeNames[x.Intn(12)]
	if x.Intn(20) == 0 {
		name = strangeNames[x.Intn(len(strangeNames))]
	}
	text := strangeBytes(x, name)
	for range 20 {
		if kind := (len(text) - 4) % 17; name[0] == 's' && kind == 0 || name[0] == 'i' && (len(text)-4)%8 == 0 || name[0] == 'l' && (len(text)-12)%21 == 0 {
			break
		}
		text = strangeBytes(x, name)
	}
	return name, text
}

// strangeStore lays on a disk what a store might have written, but with numbers such as none comes to.
func strangeStore(x *rand.Rand, d *disk.Disk) {
	some := func() []int {
		l := []int{1, 2, 3, 1 << 40, 1<<62 - 1, 1 << 62}
		x.Shuffle(len(l), func(i, k int) { l[i], l[k] = l[k], l[i] })
		l = l[:x.Intn(4)]
		slices.Sort(l)
		return l
	}
	lay := func(name string, pieces ...string) {
		text := sealed(name, pieces...)
		d.Create(name)
		d.Append(name, text[:len(text)-x.Intn(3)/2*x.Intn(5)])
	}
	digits := func(n int) string {
		s := strconv.Itoa(n)
		return strings.Repeat("0", 19-len(s)) + s
	}
	index := ""
	for _, n := range some() {
		index += eight(n)
		lay("s"+digits(n), inOrder(somePoints(x, 3)))
	}
	logs, ahead := some(), 0
	first := []int{1, 2, 1 << 62}[x.Intn(3)]
	if len(logs) > 0 && x.Intn(3) > 0 {
		first = logs[x.Intn(len(logs))]
	}
	for _, n := range logs {
		puts := somePoints(x, 4)
		lay("l"+digits(n), append([]string{eight(ahead)}, puts...)...)
		if n >= first {
			ahead += len(puts)
		}
	}
	lay("i", eight(first)+index)
}

// Files of any names and bytes, alone.
func TestP12StrangeDisks(t *testing.T) {
	x := rand.New(rand.NewSource(3))
	refused, given := 0, 0
	for i := range 60000 {
		r := begin(t, 1<<40)
		d := disk.New(1 << 40)
		if i%2 == 0 {
			strangeStore(x, d)
		}
		for range x.Intn(4 + i%2) {
			name, text := strangeFile(x)
			d.Create(name)
			d.Append(name, text)
		}
		r.next = i
		if r.works(d, []string{"pqsfqc", "cpqc", "fpfqtc", "sqqcqf", "ttqcp"}[i%5]) {
			refused++
		} else {
			given++
		}
	}
	if refused < 1000 || given < 1000 {
		t.Errorf("%d disks are refused, and %d are not: too few", refused, given)
	}
}

// Files of any names and bytes, beside a store's own or in place of one.
func TestP12StrangeFilesBesideAStore(t *testing.T) {
	x := rand.New(rand.NewSource(5))
	var runs []*run
	for _, script := range append([]string{"oqqfqqfqq", "oqqcqfq", "opfqcqqop"}, orderly...) {
		r := begin(t, 10000)
		r.does(script)
		runs = append(runs, r)
	}
	refused, given := 0, 0
	for i := range 30000 {
		r := runs[i%len(runs)]
		d := with(r.d, "", "")
		for range 1 + x.Intn(2) {
			name, text := strangeFile(x)
			d.Remove(name)
			d.Create(name)
			d.Append(name, text)
		}
		if r.works(d, []string{"pqsfqc", "cpqc", "fpfqtc", "sqqcqf", "ttqcp"}[i%5]) {
			refused++
		} else {
			given++
		}
	}
	if refused < 1000 || given < 1000 {
		t.Errorf("%d disks are refused, and %d are not: too few", refused, given)
	}
}

// Strange disks fail, are full and are cut too.
func TestP12StrangeDisksFail(t *testing.T) {
	x := rand.New(rand.NewSource(7))
	for i := range 20000 {
		d := disk.New(20 + x.Intn(600))
		if i%3 > 0 {
			strangeStore(x, d)
		}
		for range x.Intn(3) {
			name, text := strangeFile(x)
			d.Create(name)
			d.Append(name, text)
		}
		if i%2 == 0 {
			d.Fail(1+x.Intn(12), x.Intn(30))
		} else {
			d.Cut(1 + x.Intn(12))
		}
		for range 3 {
			s, e := tides.Open(d, api.Config{Life: life, Window: 1 + i%9}, 0)
			if (s == nil) != (e != api.OK) || e != api.OK && e != api.ErrCorrupt && e != api.ErrIO && e != api.ErrFull {
				t.Fatalf("P12: Open = %v, %d", s, e)
			}
			if s == nil {
				break
			}
			r := &run{T: t, d: d, room: d.Used(), s: s, window: 1 << 62, next: i} // (where no room is told, none is held to Need)
			for k := range api.MaxSeries {
				l, _ := s.Query(k, least, greatest)
				for _, p := range l {
					r.puts = append(r.puts, aPut{series: k, time: p.Time, value: p.Value})
				}
			}
			r.does([]string{"pqsfqc", "cpqc", "fpfqc"}[i%3])
			if x.Intn(2) == 0 {
				d.Crash(x.Intn(20), []int{x.Intn(50), x.Intn(50), x.Intn(50)})
			}
		}
	}
}
