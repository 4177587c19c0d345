package journal

import (
	"slices"
	"testing"

	"tides/api"
	"tides/disk"
	"tides/files"
)

func put(i int) files.Put {
	return files.Put{Series: i % api.MaxSeries, Point: api.Point{Time: -i, Value: i * i}}
}

func open(t *testing.T, d *disk.Disk) (*Journal, []files.Put) {
	t.Helper()
	calls := d.Calls()
	j, puts, e := Open(d)
	if j == nil || e != api.OK {
		t.Fatalf("Open = %v, %d", j, e)
	}
	if d.Calls() != calls {
		t.Fatal("Open changes something")
	}
	return j, puts
}

func add(t *testing.T, j *Journal, p files.Put) {
	t.Helper()
	if took, e := j.Add(p); !took || e != api.OK {
		t.Fatalf("Add(%+v) = %v, %d", p, took, e)
	}
}

func TestOpenGivesAllPutsInOrder(t *testing.T) {
	d := disk.New(100000)
	var want []files.Put
	for round := range 12 {
		j, puts := open(t, d)
		if !slices.Equal(puts, want) {
			t.Fatalf("round %d: Open gives %v, want %v", round, puts, want)
		}
		for range round % 3 {
			p := put(len(want))
			add(t, j, p)
			want = append(want, p)
		}
	}
}

func TestOpenRefusesStrangeDisks(t *testing.T) {
	for _, name := range []string{"x", "l", "l1", "notes", "s0000000000000000001", "l0000000000000000000"} {
		d := disk.New(1000)
		j, _ := open(t, d)
		add(t, j, put(1))
		d.Create(name)
		if j, puts, e := Open(d); j != nil || puts != nil || e != api.ErrCorrupt {
			t.Errorf("Open beside %q = %v, %v, %d", name, j, puts, e)
		}
	}
}

func TestOpenRefusesLogsWithAGap(t *testing.T) {
	d := disk.New(1000)
	for i := range 3 {
		j, _ := open(t, d)
		add(t, j, put(i))
	}
	for i, name := range d.List()[:2] {
		c := d.Copy()
		c.Remove(name)
		if j, puts, e := Open(c); j != nil || puts != nil || e != api.ErrCorrupt {
			t.Errorf("Open without log %d = %v, %v, %d", i+1, j, puts, e)
		}
	}
}

// A journal that fails leaves the first so many of its Puts, and the next one goes on behind them.
func TestOpenBehindFailures(t *testing.T) {
	for n := 1; n <= 8; n++ {
		for part := range 25 {
			d := disk.New(10000)
			j, _ := open(t, d)
			add(t, j, put(0))
			j, want := open(t, d)
			d.Fail(n, part)
			for i := 1; i <= 5; i++ {
				took, e := j.Add(put(i))
				if took {
					want = append(want, put(i))
				}
				if e != api.OK {
					break
				}
			}
			j, puts := open(t, d)
			if !slices.Equal(puts, want) {
				t.Fatalf("call %d fails behind %d bytes: %v, want %v", n, part, puts, want)
			}
			add(t, j, put(9))
			if _, puts = open(t, d); !slices.Equal(puts, append(want, put(9))) {
				t.Fatalf("call %d fails behind %d bytes: then %v", n, part, puts)
			}
		}
	}
}

// left: the Puts that are there behind a crash that takes all that it can.
func left(t *testing.T, d *disk.Disk) []files.Put {
	t.Helper()
	c := d.Copy()
	c.Crash(0, nil)
	_, puts := open(t, c)
	return puts
}

func sync(t *testing.T, j *Journal) {
	t.Helper()
	if e := j.Sync(); e != api.OK {
		t.Fatalf("Sync = %d", e)
	}
}

func TestSyncMakesAllPutsSafe(t *testing.T) {
	d := disk.New(100000)
	var want []files.Put
	for round := range 12 {
		j, _ := open(t, d)
		if round%4 == 3 { // what lay there, ahead of the journal's own
			sync(t, j)
			if got := left(t, d); !slices.Equal(got, want) {
				t.Fatalf("round %d: Sync leaves %v, want %v", round, got, want)
			}
		}
		for range round % 3 {
			p := put(len(want))
			add(t, j, p)
			want = append(want, p)
		}
		if round%2 == 1 {
			sync(t, j)
			if got := left(t, d); !slices.Equal(got, want) {
				t.Fatalf("round %d: Sync leaves %v, want %v", round, got, want)
			}
		}
	}
}

// On a copy of a disk nothing is safe, though later logs follow.
func TestSyncOfACopy(t *testing.T) {
	d := disk.New(1000)
	for i := range 4 {
		j, _ := open(t, d)
		add(t, j, put(i))
	}
	for _, more := range []bool{false, true} {
		c := disk.New(1000)
		for _, name := range d.List() {
			n, _ := d.Size(name)
			text, _ := d.Read(name, 0, n)
			c.Create(name)
			c.Append(name, text)
		}
		j, want := open(t, c)
		if more {
			add(t, j, put(9))
			want = append(want, put(9))
		}
		sync(t, j)
		if got := left(t, c); len(got) < 4 || !slices.Equal(got, want) {
			t.Errorf("Sync leaves %v, want %v", got, want)
		}
	}
}

// Each call of the disk that a Sync makes fails in turn, and then another journal's Sync makes good.
func TestSyncFails(t *testing.T) {
	for n := 1; ; n++ {
		d := disk.New(1000)
		j, _ := open(t, d)
		add(t, j, put(0))
		j, _ = open(t, d)
		add(t, j, put(1))
		j, want := open(t, d)
		d.Fail(n, 0)
		e := j.Sync()
		if e == api.OK {
			if n < 3 {
				t.Errorf("Sync with call %d failing = %d", n, e)
			}
			break
		}
		if e != api.ErrIO {
			t.Errorf("Sync with call %d failing = %d", n, e)
		}
		j, _ = open(t, d)
		sync(t, j)
		if got := left(t, d); !slices.Equal(got, want) {
			t.Errorf("call %d failing: then Sync leaves %v, want %v", n, got, want)
		}
	}
}

// random: the same numbers each time.
type random uint64

func (r *random) below(n int) int {
	*r = *r*6364136223846793005 + 1442695040888963407
	return int(*r>>33) % n
}

// Whatever a crash takes, a beginning of what was put is left: of the Puts that were left ahead of it, and of those made since.
func TestOpenBehindCrashes(t *testing.T) {
	for seed := range 3000 {
		r := random(seed)
		d := disk.New(100000)
		var have []files.Put
		crashed := false
		for next := 0; next < 40; {
			j, puts := open(t, d)
			if len(puts) > len(have) || !crashed && len(puts) < len(have) || !slices.Equal(puts, have[:len(puts)]) {
				t.Fatalf("seed %d: Open gives %v behind %v", seed, puts, have)
			}
			have = puts
			d.Cut(r.below(12))
			for range r.below(8) {
				p := put(next)
				next++
				took, e := j.Add(p)
				if took {
					have = append(have, p)
				}
				if e != api.OK {
					break
				}
			}
			next++
			crashed = d.Dead() || r.below(2) == 0
			if crashed {
				d.Crash(r.below(100), []int{r.below(100), r.below(100), r.below(100), r.below(100), r.below(100)})
			}
		}
	}
}
