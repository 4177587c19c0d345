package archive

import (
	"cmp"
	"slices"
	"testing"

	"tides/api"
	"tides/disk"
	"tides/files"
)

func open(t *testing.T, d *disk.Disk) (*Archive, []files.Put) {
	t.Helper()
	calls := d.Calls()
	a, puts, e := Open(d)
	if a == nil || e != api.OK {
		t.Fatalf("Open = %v, %d", a, e)
	}
	if d.Calls() != calls {
		t.Fatal("Open changes something")
	}
	return a, puts
}

func add(t *testing.T, a *Archive, puts ...files.Put) {
	t.Helper()
	for _, p := range puts {
		if took, e := a.Add(p); !took || e != api.OK {
			t.Fatalf("Add(%v) = %v, %d", p, took, e)
		}
	}
}

func ok(t *testing.T, e api.Errno) {
	t.Helper()
	if e != api.OK {
		t.Fatalf("%d", e)
	}
}

// is holds what lies on a disk to segments, the older ones first, and the Puts behind them; and the names to a number of files.
func is(t *testing.T, d *disk.Disk, names int, puts []files.Put, segments ...[]files.Put) {
	t.Helper()
	a, all := open(t, d)
	if got := d.List(); len(got) != names {
		t.Errorf("on the disk are %v, want %d files", got, names)
	}
	var want []files.Put
	got, _ := a.segments()
	if len(got) != len(segments) {
		t.Fatalf("there are %d segments, want %d", len(got), len(segments))
	}
	for i, points := range segments {
		want = append(want, points...)
		if !slices.Equal(got[i].Points, points) {
			t.Errorf("segment %d has %v, want %v", i, got[i].Points, points)
		}
	}
	if !slices.Equal(all, append(want, puts...)) {
		t.Errorf("Open gives %v, want %v", all, append(want, puts...))
	}
}

// compacted holds what lies on a disk to one segment for each window, and nothing else but the index.
func compacted(t *testing.T, d *disk.Disk, windows ...[]files.Put) {
	t.Helper()
	a, _ := open(t, d)
	var got [][]files.Put
	segments, _ := a.segments()
	for _, s := range segments {
		got = append(got, s.Points)
	}
	slices.SortFunc(got, func(l, m []files.Put) int { return cmp.Compare(l[0].Time, m[0].Time) })
	if !slices.EqualFunc(got, windows, slices.Equal) || len(d.List()) != 1+len(windows) {
		t.Errorf("the segments have %v, want %v; on the disk are %v", got, windows, d.List())
	}
}

// somePuts lie in three windows of 5: the middle one is that of two series.
func somePuts() []files.Put {
	return []files.Put{at(3, 7, 1), at(0, -4, 2), at(3, 2, 3), at(0, 4, 4), at(3, 7, 5)}
}

func TestFlushLaysThePutsIntoTheirWindows(t *testing.T) {
	d := disk.New(10000)
	a, _ := open(t, d)
	add(t, a, somePuts()...)
	is(t, d, 1, somePuts())
	ok(t, a.Flush(5))
	old := [][]files.Put{{at(0, -4, 2)}, {at(0, 4, 4), at(3, 2, 3)}, {at(3, 7, 5)}}
	is(t, d, 4, nil, old...)
	later := []files.Put{at(0, -4, 6), at(0, 100, 7)}
	add(t, a, later...)
	is(t, d, 5, later, old...)
	ok(t, a.Flush(200))
	is(t, d, 6, nil, append(old, later[:1], later[1:])...)
	d.Crash(0, nil)
	is(t, d, 6, nil, append(old, later[:1], later[1:])...)
}

func TestCompactMergesEachWindow(t *testing.T) {
	for _, flushed := range []bool{false, true} {
		d := disk.New(10000)
		a, _ := open(t, d)
		for _, p := range somePuts() {
			add(t, a, p)
			if flushed {
				ok(t, a.Flush(3))
			}
		}
		ok(t, a.Compact(5, least))
		compacted(t, d, []files.Put{at(0, -4, 2)}, []files.Put{at(0, 4, 4), at(3, 2, 3)}, []files.Put{at(3, 7, 5)})
		d.Crash(0, nil)
		a, _ = open(t, d)
		ok(t, a.Compact(1<<62, least))
		compacted(t, d, []files.Put{at(0, -4, 2)}, []files.Put{at(0, 4, 4), at(3, 2, 3), at(3, 7, 5)})
		ok(t, a.Compact(1, least))
		compacted(t, d, []files.Put{at(0, -4, 2)}, []files.Put{at(3, 2, 3)}, []files.Put{at(0, 4, 4)}, []files.Put{at(3, 7, 5)})
	}
}

// A window is let go when nothing in it is alive, and not ahead of that: what is dead in it is kept till then.
func TestCompactLetsWindowsGo(t *testing.T) {
	for oldest, want := range map[int][][]files.Put{
		-4:       {{at(0, -4, 2)}, {at(0, 4, 4), at(3, 2, 3)}, {at(3, 7, 5)}},
		-3:       {{at(0, 4, 4), at(3, 2, 3)}, {at(3, 7, 5)}},
		4:        {{at(0, 4, 4), at(3, 2, 3)}, {at(3, 7, 5)}},
		5:        {{at(3, 7, 5)}},
		7:        {{at(3, 7, 5)}},
		8:        {},
		greatest: {},
	} {
		for _, flushed := range []bool{false, true} {
			d := disk.New(10000)
			a, _ := open(t, d)
			add(t, a, somePuts()...)
			if flushed {
				ok(t, a.Flush(5))
			}
			ok(t, a.Compact(5, oldest))
			compacted(t, d, want...)
		}
	}
}

// calls: how many calls that change something are made.
func calls(d *disk.Disk, call func()) int {
	n := d.Calls()
	call()
	return d.Calls() - n
}

// A window that lies in a segment of its own stays there: the segment is not written again.
func TestCompactKeepsWhatIsInOrder(t *testing.T) {
	d := disk.New(10000)
	a, _ := open(t, d)
	add(t, a, somePuts()...)
	ok(t, a.Flush(5))
	for range 3 {
		if n := calls(d, func() { ok(t, a.Compact(5, least)) }); n != 1 {
			t.Errorf("%d calls, want a SyncDir", n)
		}
	}
	names := d.List()
	add(t, a, at(3, 1, 8))
	ok(t, a.Compact(5, least))
	kept := 0
	for _, name := range d.List() {
		if name[0] == 's' && slices.Contains(names, name) {
			kept++
		}
	}
	if kept != 2 {
		t.Errorf("%d segments are as they were, want 2: %v, before it %v", kept, d.List(), names)
	}
	compacted(t, d, []files.Put{at(0, -4, 2)}, []files.Put{at(0, 4, 4), at(3, 1, 8), at(3, 2, 3)}, []files.Put{at(3, 7, 5)})
}

func TestNothingToOrder(t *testing.T) {
	for name, order := range map[string]func(*Archive) api.Errno{
		"Flush":   func(a *Archive) api.Errno { return a.Flush(5) },
		"Compact": func(a *Archive) api.Errno { return a.Compact(5, 0) },
	} {
		d := disk.New(0)
		a, _ := open(t, d)
		if n := calls(d, func() { ok(t, order(a)); ok(t, order(a)) }); n != 2 || len(d.List()) != 0 {
			t.Errorf("%s: %d calls, want two times a SyncDir; on the disk are %v", name, n, d.List())
		}
	}
}

// What interrupted calls have left is taken away by the next Flush and Compact, ahead of all else: so it does not stand in their way.
func TestSweep(t *testing.T) {
	for name, order := range map[string]func(*Archive) api.Errno{
		"Flush":   func(a *Archive) api.Errno { return a.Flush(5) },
		"Compact": func(a *Archive) api.Errno { return a.Compact(5, least) },
	} {
		d := disk.New(2000)
		a, _ := open(t, d)
		add(t, a, at(0, 0, 1))
		ok(t, a.Flush(5))
		a, _ = open(t, d)
		add(t, a, at(0, 9, 2))
		for _, name := range []string{"d", "s0000000000000000007", "l0000000000000000001"} {
			ok(t, d.Create(name))
		}
		ok(t, d.Append("d", string(make([]byte, 2000-d.Used()))))
		a, _ = open(t, d)
		ok(t, order(a))
		is(t, d, 3, nil, []files.Put{at(0, 0, 1)}, []files.Put{at(0, 9, 2)})
		if got := d.List(); got[2] != "s0000000000000000008" {
			t.Errorf("%s: on the disk are %v", name, got)
		}
	}
}

func TestOpenRefusesStrangeDisks(t *testing.T) {
	d := disk.New(10000)
	a, _ := open(t, d)
	add(t, a, somePuts()...)
	ok(t, a.Flush(5))
	add(t, a, at(0, 0, 9))
	for _, name := range []string{"x", "l", "l1", "notes", "s", "i1", "l0000000000000000000", "s4611686018427387905"} {
		c := d.Copy()
		c.Create(name)
		if a, puts, e := Open(c); a != nil || puts != nil || e != api.ErrCorrupt {
			t.Errorf("Open beside %q = %v, %v, %d", name, a, puts, e)
		}
	}
	for _, name := range d.List() {
		if name[0] != 's' {
			continue
		}
		c := d.Copy()
		c.Remove(name)
		if a, puts, e := Open(c); a != nil || puts != nil || e != api.ErrCorrupt {
			t.Errorf("Open without %s = %v, %v, %d", name, a, puts, e)
		}
	}
}

// Where a disk was copied nothing is safe: Sync, Flush and Compact make all safe that the archive has, and do it once.
func TestWhatLayThereIsMadeSafe(t *testing.T) {
	d := disk.New(10000)
	a, _ := open(t, d)
	add(t, a, at(0, 0, 1))
	ok(t, a.Flush(5))
	add(t, a, at(0, 9, 2))
	a, _ = open(t, d)
	add(t, a, at(0, 9, 3))
	for name, order := range map[string]func(*Archive) api.Errno{
		"Sync":         (*Archive).Sync,
		"Flush":        func(a *Archive) api.Errno { return a.Flush(5) },
		"Compact":      func(a *Archive) api.Errno { return a.Compact(5, least) },
		"Put and Sync": func(a *Archive) api.Errno { add(t, a, at(0, 9, 3)); return a.Sync() },
	} {
		c := disk.New(10000)
		for _, name := range d.List() {
			n, _ := d.Size(name)
			text, _ := d.Read(name, 0, n)
			ok(t, c.Create(name))
			ok(t, c.Append(name, text))
		}
		a, _ := open(t, c)
		ok(t, order(a))
		if n := calls(c, func() { ok(t, a.Sync()) }); n > 2 {
			t.Errorf("%s, and a Sync that makes %d calls", name, n)
		}
		c.Crash(0, nil)
		_, puts := open(t, c)
		if w := inWindows(puts, 1); len(w) != 2 || w[0][0] != at(0, 0, 1) || w[1][0] != at(0, 9, 3) {
			t.Errorf("%s: behind a crash there are %v", name, puts)
		}
	}
}

// Each call of the disk that a Flush or a Compact makes fails in turn, and the next archive does it.
func TestOrderFails(t *testing.T) {
	for name, order := range map[string]func(*Archive) api.Errno{
		"Sync":    (*Archive).Sync,
		"Flush":   func(a *Archive) api.Errno { return a.Flush(5) },
		"Compact": func(a *Archive) api.Errno { return a.Compact(5, least) },
	} {
		for n := 1; ; n++ {
			d := disk.New(10000)
			a, _ := open(t, d)
			add(t, a, somePuts()...)
			ok(t, a.Flush(5))
			add(t, a, at(0, 0, 1))
			a, _ = open(t, d)
			add(t, a, at(0, 9, 2))
			_, want := open(t, d)
			a, _ = open(t, d)
			d.Fail(n, 11)
			e := order(a)
			d.Fail(0, 0)
			a, got := open(t, d)
			if !slices.EqualFunc(inWindows(got, 5), inWindows(want, 5), slices.Equal) {
				t.Fatalf("%s with call %d failing leaves %v, want %v", name, n, got, want)
			}
			if e == api.OK {
				break
			}
			if e != api.ErrIO {
				t.Errorf("%s with call %d failing = %d", name, n, e)
			}
			ok(t, order(a))
			d.Crash(0, nil)
			if _, got = open(t, d); !slices.EqualFunc(inWindows(got, 5), inWindows(want, 5), slices.Equal) {
				t.Fatalf("%s with call %d failing, and again: %v, want %v", name, n, got, want)
			}
		}
	}
}
