package tides_test

import (
	"strings"
	"testing"

	"tides/api"
	"tides/disk"
	"tides/tides"
)

func flush(t *testing.T, s *tides.Store) {
	t.Helper()
	if e := s.Flush(); e != api.OK {
		t.Fatalf("Flush = %d", e)
	}
}

func compact(t *testing.T, s *tides.Store) {
	t.Helper()
	if e := s.Compact(); e != api.OK {
		t.Fatalf("Compact = %d", e)
	}
}

func TestP8FlushIsDurable(t *testing.T) {
	for _, script := range append([]string{"of", "off", "oof", "opf", "oqqqf", "opof", "opopof", "opsof", "opfpf", "opfoqf", "opcof", "opcpf", "oqqtttf", "oqqtttff", "oqfOqf"}, orderly...) {
		r := begin(t, 10000)
		r.does(script)
		r.does("f")
		everyCrash(r.d, func(c *disk.Disk) { r.behind(c).does("pfo") })
		r.keeps()
	}
}

func TestP9CompactIsDurable(t *testing.T) {
	for _, script := range append([]string{"oc", "occ", "ooc", "opc", "oqqqc", "opoc", "opopoc", "opsoc", "opcpc", "opcoqc", "opfoc", "opfpc", "oqqtttc", "oqqtttcc", "oqcOqc"}, orderly...) {
		r := begin(t, 10000)
		r.does(script)
		r.does("c")
		everyCrash(r.d, func(c *disk.Disk) { r.behind(c).does("pco") })
		r.keeps()
		if n := most(r.puts, r.clock, r.window); r.d.Used() > n {
			t.Errorf("%s: behind a crash there are %d bytes, more than %d", script, r.d.Used(), n)
		}
	}
}

// What is put behind a Flush or a Compact is not durable for that: so it is lost as a whole row, from its end on.
func TestP8AndP9OfWhatIsPutBehindThem(t *testing.T) {
	for _, script := range []string{"opfpp", "opcpp", "oppfpcpp", "opfopp"} {
		r := begin(t, 10000)
		r.does(script)
		least, most := len(r.puts), 0
		everyCrash(r.d, func(c *disk.Disk) {
			n := len(r.behind(c).puts)
			least, most = min(least, n), max(most, n)
		})
		if least != len(r.puts)-2 || most != len(r.puts) {
			t.Errorf("%s: behind crashes there are %d to %d of %d Puts", script, least, most, len(r.puts))
		}
	}
}

func TestP9Example(t *testing.T) {
	d := disk.New(10000)
	s := open(t, d, 10, 5, 0)
	for _, p := range (points{{Time: 7, Value: 70}, {Time: -4, Value: 1}, {Time: 2, Value: 20}, {Time: 7, Value: 71}}) {
		put(t, s, 3, p.Time, p.Value)
	}
	tick(t, s, 6)
	compact(t, s)
	has(t, s, 3, least, greatest, points{{Time: 2, Value: 20}, {Time: 7, Value: 71}}...)
	if d.Used() > 600 {
		t.Errorf("%d bytes, of two points", d.Used())
	}
	tick(t, s, greatest)
	is(t, s, false, greatest)
	compact(t, s)
	has(t, s, 3, least, greatest)
	if d.Used() > 300 {
		t.Errorf("%d bytes, of none", d.Used())
	}
}

// One point in each window is the most that must be told of windows; a row of Puts at one time the least.
func TestP9EachPointInAWindowOfItsOwn(t *testing.T) {
	r := begin(t, 1<<20)
	r.window = 1
	r.s = open(t, r.d, life, 1, r.clock)
	for i := range 150 {
		r.put(aPut{series: i % api.MaxSeries, time: r.clock + i*7, value: i})
		if i%10 == 0 {
			r.does("f")
		}
	}
	r.does("cc")
	for i := range 150 {
		r.put(aPut{series: 5, time: r.clock, value: i})
		if i%10 == 0 {
			r.does("f")
		}
	}
	r.does("cc")
	for range 40 {
		r.tick(30)
		r.does("c")
	}
	if r.d.Used() > 300 {
		t.Errorf("%d bytes, of nothing", r.d.Used())
	}
}

// With each Window: the same points, of which those must be kept that have a window with one that is alive.
func TestP9EachWindow(t *testing.T) {
	for _, first := range []int{1, 2, 3, 7, 20, 1000, 1<<62 - 1, 1 << 62} {
		r := begin(t, 1<<20)
		r.clock, r.window = -60, first
		r.s = open(t, r.d, life, first, r.clock)
		for i := range 120 {
			r.put(aPut{series: i % 3, time: i%59 - 70, value: i})
			if i%25 == 0 {
				r.does("f")
			}
		}
		for _, time := range []int{least, least + 1, -1 << 62, 1 << 62, greatest - 1, greatest} {
			r.put(aPut{series: 7, time: time, value: time})
		}
		for _, window := range []int{first, 1, 5, 1 << 62, 2, 13, 1<<62 - 1, 1, 1 << 62} {
			n := r.other(r.d.Copy())
			n.window = window
			n.s = open(t, n.d, life, window, n.clock)
			n.does("c")
			n.tick(window%50 + 3)
			n.does("cc")
			r.window = window
			r.s = open(t, r.d, life, window, r.clock)
			r.does("c")
			r.tick(7)
			r.does("cf")
		}
	}
}

// Very many points that are not alive, beside few that are: those in windows of their own are let go, and no others count.
func TestP9DeadPointsAreLetGo(t *testing.T) {
	const life, n = 1000, 2000
	for _, c := range []struct{ window, kept int }{{1, 1}, {2, 1}, {10, 10}, {7, 5}, {1000, 1000}, {1 << 62, 2 * n}} {
		for _, flushes := range []bool{false, true} {
			d := disk.New(1 << 20)
			s := open(t, d, life, c.window, 0)
			for i := range n {
				put(t, s, i%api.MaxSeries, i, i)
				put(t, s, 0, -i-1, i)
				if flushes && i%500 == 0 {
					flush(t, s)
				}
			}
			tick(t, s, life+n-2) // the last one is alive
			compact(t, s)
			has(t, s, 7, least, greatest, api.Point{Time: n - 1, Value: n - 1})
			if most := 300 + 150*c.kept; d.Used() > most {
				t.Errorf("Window %d: %d bytes, more than %d", c.window, d.Used(), most)
			}
			has(t, open(t, d, life, c.window, life+n-2), 7, least, greatest, api.Point{Time: n - 1, Value: n - 1})
		}
	}
}

// What a crash or a failure has left does not stay behind a Compact.
func TestP9BehindCrashesAndFailures(t *testing.T) {
	for _, script := range []string{"opfpc", "oqfOqc", "oppfpfpf"} {
		everyLeft := func(c *disk.Disk, r *run) {
			n := r.behind(c)
			n.does("c") // which holds the number of bytes
			n.tick(1 << 62)
			if n.does("c"); n.d.Used() > 300 || n.tells() != "" {
				t.Fatalf("%s: %d bytes, of nothing", script, n.d.Used())
			}
		}
		eachCut(func() *run { return begin(t, 10000) }, script, func(r *run) {
			everyCrash(r.d, func(c *disk.Disk) { everyLeft(c, r) })
		})
		eachFailure(func() *run { return begin(t, 10000) }, script, func(r *run) {
			everyLeft(r.d.Copy(), r)
		})
	}
}

// A Compact makes room for what comes: so a store goes on for ever on a disk that has room for what is alive.
func TestP9RoomIsThereAgain(t *testing.T) {
	r := begin(t, 4000)
	r.does("o")
	for range 300 {
		r.does("pppcO")
	}
	if r.readOnly || r.d.Fulls() > 0 {
		t.Error("the disk is full")
	}
}

func TestP8AndP9AtTheEndsOfTheNumbers(t *testing.T) {
	for _, window := range edges {
		if window < 1 || window > 1<<62 {
			continue
		}
		for _, life := range []int{1, 5, 1<<62 - 1, 1 << 62} {
			for _, clock := range edges {
				d := disk.New(1 << 20)
				s := open(t, d, life, window, clock)
				var want points
				for i, time := range edges {
					put(t, s, 6, time, i)
					put(t, s, i%5, time, i)
					if alive(time, life, clock) {
						want = append(want, api.Point{Time: time, Value: i})
					}
				}
				flush(t, s)
				has(t, s, 6, least, greatest, want...)
				has(t, open(t, d, life, window, clock), 6, least, greatest, want...)
				compact(t, s)
				has(t, s, 6, least, greatest, want...)
				d.Crash(0, nil)
				s = open(t, d, life, window, clock)
				has(t, s, 6, least, greatest, want...)
				compact(t, s)
				has(t, s, 6, least, greatest, want...)
			}
		}
	}
}

// Of two stores in which the same is put, ticked and queried each answers the same, whatever else is done.
func TestP13NothingElseMatters(t *testing.T) {
	for seed := range 150 {
		x := random(seed)
		life, clock := 1+x.below(60), x.below(100)-50
		if seed%10 == 0 {
			life = 1 << 62
		}
		var disks [4]*disk.Disk
		var stores [4]*tides.Store
		var told [4]strings.Builder
		reopen := func(k int) {
			window := 1 + x.below(30)
			if x.below(4) == 0 {
				window = 1 << 62
			}
			stores[k] = open(t, disks[k], life, window, clock)
		}
		for k := range stores {
			disks[k] = disk.New(1 << 20)
			reopen(k)
		}
		for i := range 150 {
			series, time, n, do := x.below(api.MaxSeries+1), clock+x.below(120)-60, x.below(9), x.below(10)
			if x.below(9) == 0 {
				time = edges[x.below(len(edges))]
			}
			for k, s := range stores {
				switch {
				case do < 5:
					write(&told[k], int(s.Put(series, time, i)), nil)
				case do == 5:
					write(&told[k], int(s.Tick(n-1)), nil)
				default:
					l, e := s.Query(series, time, time+n*10)
					write(&told[k], int(e), l)
				}
				if told[k].String() != told[0].String() {
					t.Fatalf("seed %d: %s, and of another store %s", seed, told[k].String(), told[0].String())
				}
			}
			if do == 5 && n > 0 {
				clock += n - 1
			}
			for k := 1; k < len(stores); k++ { // the first is left alone
				switch x.below(12) {
				case 0:
					stores[k].Sync()
				case 1:
					flush(t, stores[k])
				case 2:
					compact(t, stores[k])
				case 3:
					reopen(k)
				}
			}
		}
		for series := range api.MaxSeries {
			want, _ := stores[0].Query(series, least, greatest)
			for k, s := range stores {
				has(t, s, series, least, greatest, want...)
				has(t, open(t, disks[k], life, 9, clock), series, least, greatest, want...)
			}
		}
	}
}

// Two disks with the same names and bytes have the same, though on one of them nothing is safe.
func TestP3ACopyHasTheSame(t *testing.T) {
	for _, script := range orderly {
		begun := func() *run {
			r := begin(t, 10000)
			r.does(script)
			return r
		}
		eachCut(begun, "qfqc", func(r *run) {
			copied := disk.New(20000)
			lay(copied, r.d)
			n := r.behind(copied)
			r.open()
			if r.tells() != n.tells() {
				t.Fatalf("%s: a copy tells %s, and the disk %s", script, n.tells(), r.tells())
			}
			n.does("pfqc")
			n.keeps()
		})
	}
}
