package journal

import (
	"slices"
	"testing"

	"tides/api"
	"tides/disk"
	"tides/files"
)

func put(i int) files.Put {
	return files.Put{Series: i % api.MaxSeries, Point: api.Point{Time: -i, Value: i * i}}
}

func open(t *testing.T, d *disk.Disk) (*Journal, []files.Put) {
	t.Helper()
	calls := d.Calls()
	j, puts, e := Open(d, 1)
	if j == nil || e != api.OK {
		t.Fatalf("Open = %v, %d", j, e)
	}
	if d.Calls() != calls {
		t.Fatal("Open changes something")
	}
	return j, puts
}

func add(t *testing.T, j *Journal, p files.Put) {
	t.Helper()
	if took, e := j.Add(p); !took || e != api.OK {
		t.Fatalf("Add(%+v) = %v, %d", p, took, e)
	}
}

func TestOpenGivesAllPutsInOrder(t *testing.T) {
	d := disk.New(100000)
	var want []files.Put
	for round := range 12 {
		j, puts := open(t, d)
		if !slices.Equal(puts, want) {
			t.Fatalf("round %d: Open gives %v, want %v", round, puts, want)
		}
		for range round % 3 {
			p := put(len(want))
			add(t, j, p)
			want = append(want, p)
		}
	}
}

func TestOpenRefusesLogsWithAGap(t *testing.T) {
	d := disk.New(1000)
	for i := range 3 {
		j, _ := open(t, d)
		add(t, j, put(i))
	}
	for i, name := range d.List()[:2] {
		c := d.Copy()
		c.Remove(name)
		if j, puts, e := Open(c, 1); j != nil || puts != nil || e != api.ErrCorrupt {
			t.Errorf("Open without log %d = %v, %v, %d", i+1, j, puts, e)
		}
	}
}

// A journal that fails leaves the first so many of its Puts, and the next one goes on behind them.
func TestOpenBehindFailures(t *testing.T) {
	for n := 1; n <= 7; n++ {
		for part := range 25 {
			d := disk.New(10000)
			j, _ := open(t, d)
			add(t, j, put(0))
			j, want := open(t, d)
			d.Fail(n, part)
			for i := 1; i <= 5; i++ {
				took, e := j.Add(put(i))
				if took {
					want = append(want, put(i))
				}
				if e != api.OK {
					break
				}
			}
			j, puts := open(t, d)
			if !slices.Equal(puts, want) {
				t.Fatalf("call %d fails behind %d bytes: %v, want %v", n, part, puts, want)
			}
			add(t, j, put(9))
			if _, puts = open(t, d); !slices.Equal(puts, append(want, put(9))) {
				t.Fatalf("call %d fails behind %d bytes: then %v", n, part, puts)
			}
		}
	}
}

// Logs with lesser numbers do not count, and files of other sorts are not the journal's.
func TestOpenFromANumberOn(t *testing.T) {
	d := disk.New(10000)
	for i := range 3 {
		j, _ := open(t, d)
		add(t, j, put(i))
	}
	for _, name := range []string{"i", "d", "s0000000000000000009", "notes"} {
		d.Create(name)
	}
	for first := 4; first < 7; first++ {
		c := d.Copy()
		j, puts, e := Open(c, first)
		if e != api.OK || len(puts) != 0 || j.Next() != first || len(j.Logs()) != 0 {
			t.Fatalf("Open from %d = %v, %v, %d", first, j, puts, e)
		}
		add(t, j, put(7))
		add(t, j, put(8))
		again, puts, e := Open(c, first)
		if e != api.OK || !slices.Equal(puts, []files.Put{put(7), put(8)}) || again.Next() != first+1 || !slices.Equal(again.Logs(), []int{first}) {
			t.Fatalf("Open from %d again = %v, %v, %d", first, again, puts, e)
		}
	}
	for first := 2; first < 4; first++ { // the logs ahead are part of the row
		if j, puts, e := Open(d, first); j != nil || puts != nil || e != api.ErrCorrupt {
			t.Errorf("Open from %d = %v, %v, %d", first, j, puts, e)
		}
	}
}

func TestPutsAndLeave(t *testing.T) {
	d := disk.New(10000)
	var want []files.Put
	first := 1
	for round := range 12 {
		j, _, e := Open(d, first)
		if e != api.OK {
			t.Fatalf("Open = %d", e)
		}
		for i := range 4 {
			if got, e := j.Puts(); e != api.OK || !slices.Equal(got, want) {
				t.Fatalf("round %d: Puts = %v, %d, want %v", round, got, e, want)
			}
			if i == 2 && round%3 == 2 {
				first = j.Next()
				j.Leave()
				want = nil
				if got, e := j.Puts(); e != api.OK || len(got) != 0 || j.Next() != first {
					t.Fatalf("behind Leave: Puts = %v, %d", got, e)
				}
			}
			add(t, j, put(round*4+i))
			want = append(want, put(round*4+i))
		}
	}
}

func TestSyncMakesAllThatWasAddedSafe(t *testing.T) {
	d := disk.New(1000)
	j, _ := open(t, d)
	if e := j.Sync(); e != api.OK || d.Calls() != 0 {
		t.Fatalf("Sync of nothing = %d, in %d calls", e, d.Calls())
	}
	for i := range 3 {
		add(t, j, put(i))
		if e := j.Sync(); e != api.OK {
			t.Fatalf("Sync = %d", e)
		}
	}
	add(t, j, put(3))
	d.Fail(1, 0)
	if e := j.Sync(); e != api.ErrIO {
		t.Errorf("Sync that fails = %d", e)
	}
	d.Crash(1, nil)
	if _, puts := open(t, d); len(puts) != 3 {
		t.Errorf("behind a crash there are %v", puts)
	}
}

// random: the same numbers each time.
type random uint64

func (r *random) below(n int) int {
	*r = *r*6364136223846793005 + 1442695040888963407
	return int(*r>>33) % n
}

// Whatever a crash takes, a beginning of what was put is left: of the Puts that were left ahead of it, and of those made since. What lay there at an Open is safe ahead of its first Add.
func TestOpenBehindCrashes(t *testing.T) {
	for seed := range 3000 {
		r := random(seed)
		d := disk.New(100000)
		var have []files.Put
		crashed := false
		for next := 0; next < 40; {
			j, puts := open(t, d)
			if len(puts) > len(have) || !crashed && len(puts) < len(have) || !slices.Equal(puts, have[:len(puts)]) {
				t.Fatalf("seed %d: Open gives %v behind %v", seed, puts, have)
			}
			have = puts
			for _, name := range d.List() {
				d.Sync(name)
			}
			d.Cut(r.below(12))
			for range r.below(8) {
				p := put(next)
				next++
				took, e := j.Add(p)
				if took {
					have = append(have, p)
				}
				if e != api.OK {
					break
				}
			}
			next++
			crashed = d.Dead() || r.below(2) == 0
			if crashed {
				d.Crash(r.below(100), []int{r.below(100), r.below(100), r.below(100), r.below(100), r.below(100)})
			}
		}
	}
}
