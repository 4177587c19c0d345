package tides_test

import (
	"maps"
	"math/big"
	"slices"
	"strings"
	"sync"
	"testing"

	"tides/api"
	"tides/disk"
	"tides/tides"
)

const least, greatest = -1 << 63, 1<<63 - 1

// edges: numbers at which something may turn.
var edges = []int{least, least + 1, -1<<62 - 1, -1 << 62, -1<<62 + 1, -8, -1, 0, 1, 2, 7, 8, 9, 1<<62 - 1, 1 << 62, 1<<62 + 1, greatest - 1, greatest}

type points = []api.Point

func open(t *testing.T, d *disk.Disk, life, window, clock int) *tides.Store {
	t.Helper()
	s, e := tides.Open(d, api.Config{Life: life, Window: window}, clock)
	if s == nil || e != api.OK {
		t.Fatalf("Open(%d, %d, %d) = %v, %d", life, window, clock, s, e)
	}
	return s
}

func put(t *testing.T, s *tides.Store, series, time, value int) {
	t.Helper()
	if e := s.Put(series, time, value); e != api.OK {
		t.Fatalf("Put(%d, %d, %d) = %d", series, time, value, e)
	}
}

func tick(t *testing.T, s *tides.Store, ticks int) {
	t.Helper()
	if e := s.Tick(ticks); e != api.OK {
		t.Fatalf("Tick(%d) = %d", ticks, e)
	}
}

func has(t *testing.T, s *tides.Store, series, from, to int, want ...api.Point) {
	t.Helper()
	if got, e := s.Query(series, from, to); e != api.OK || !slices.Equal(got, want) {
		t.Fatalf("Query(%d, %d, %d) = %v, %d, want %v", series, from, to, got, e, want)
	}
}

func is(t *testing.T, s *tides.Store, readOnly bool, clock int) {
	t.Helper()
	if got := s.State(); got != (api.State{ReadOnly: readOnly, Clock: clock}) {
		t.Fatalf("State() = %+v, want %v, %d", got, readOnly, clock)
	}
}

// lies: all that lies on a disk, as a text.
func lies(d *disk.Disk) string {
	var b strings.Builder
	for _, name := range d.List() {
		n, _ := d.Size(name)
		text, _ := d.Read(name, 0, n)
		b.WriteString(name + "\x00" + text + "\x00")
	}
	return b.String()
}

// lay lays all on a disk that lies on another.
func lay(d *disk.Disk, other *disk.Disk) {
	for _, name := range other.List() {
		n, _ := other.Size(name)
		text, _ := other.Read(name, 0, n)
		d.Create(name)
		d.Append(name, text)
	}
}

func TestP1RefusedCallsChangeNothing(t *testing.T) {
	d := disk.New(10000)
	s := open(t, d, 10, 5, 3)
	put(t, s, 2, 1, 11)
	calls, before := d.Calls(), lies(d)
	for _, k := range edges {
		if k >= 0 && k < api.MaxSeries {
			continue
		}
		if e := s.Put(k, 1, 12); e != api.ErrSeries {
			t.Errorf("Put of the series %d = %d", k, e)
		}
		if l, e := s.Query(k, least, greatest); l != nil || e != api.ErrSeries {
			t.Errorf("Query of the series %d = %v, %d", k, l, e)
		}
	}
	for _, n := range edges {
		if n >= 0 {
			continue
		}
		if e := s.Tick(n); e != api.ErrTime {
			t.Errorf("Tick(%d) = %d", n, e)
		}
	}
	for _, c := range []api.Config{{Life: 0, Window: 5}, {Life: 5, Window: 0}} {
		if o, e := tides.Open(d, c, 0); o != nil || e != api.ErrConfig {
			t.Errorf("Open(%+v) = %v, %d", c, o, e)
		}
	}
	if d.Calls() != calls || lies(d) != before {
		t.Error("a call that is refused changes the disk")
	}
	is(t, s, false, 3)
	has(t, s, 2, least, greatest, api.Point{Time: 1, Value: 11})
}

func TestP1AllNumbers(t *testing.T) {
	for _, life := range edges {
		for _, clock := range edges {
			s, e := tides.Open(disk.New(1<<20), api.Config{Life: life, Window: 1}, clock)
			if (s == nil) != (e == api.ErrConfig) || (e == api.OK) != (life >= 1 && life <= 1<<62) {
				t.Fatalf("Open(%d, 1, %d) = %v, %d", life, clock, s, e)
			}
			if s == nil {
				continue
			}
			for _, x := range edges {
				for _, y := range edges {
					s.Put(x, y, x)
					s.Put(0, x, y)
					if l, _ := s.Query(0, x, y); x > y && len(l) > 0 {
						t.Fatalf("Query(0, %d, %d) = %v", x, y, l)
					}
					s.Query(x, y, x)
				}
			}
			for _, x := range edges {
				s.Tick(x)
				s.Flush()
				s.Compact()
			}
			is(t, s, false, greatest)
		}
	}
}

func TestP1AnswersAreNewMemory(t *testing.T) {
	s := open(t, disk.New(10000), 100, 5, 0)
	want := points{}
	for i := range 9 {
		put(t, s, 4, i, -i)
		want = append(want, api.Point{Time: i, Value: -i})
	}
	for n := range 9 {
		l, _ := s.Query(4, 0, n)
		for i := range l[:cap(l)] {
			l[:cap(l)][i] = api.Point{Time: 50, Value: 50}
		}
		has(t, s, 4, least, greatest, want...)
	}
	l, _ := s.Query(4, least, greatest)
	put(t, s, 4, 3, 33)
	tick(t, s, 105)
	if !slices.Equal(l, want) {
		t.Errorf("an answer has turned into %v", l)
	}
}

func TestP1StoresAreApart(t *testing.T) {
	a, b := open(t, disk.New(10000), 10, 5, 0), open(t, disk.New(0), 10, 5, 100)
	put(t, a, 1, 2, 3)
	if e := b.Put(1, 95, 4); e != api.ErrFull {
		t.Errorf("Put on a disk without room = %d", e)
	}
	tick(t, b, 1)
	is(t, a, false, 0)
	is(t, b, true, 101)
	has(t, a, 1, least, greatest, api.Point{Time: 2, Value: 3})
	has(t, b, 1, least, greatest)
}

// Whatever lies on the disk, Open answers, and the store that it gives works.
func TestP1StrangeDisks(t *testing.T) {
	d := disk.New(10000)
	s := open(t, d, 10, 5, 0)
	put(t, s, 1, 2, 3)
	name := d.List()[0]
	n, _ := d.Size(name)
	text, _ := d.Read(name, 0, n)
	for _, other := range []string{"a", "l", name, name + "0", name[:len(name)-1] + "2", "l4611686018427387904", "l9223372036854775807", "l9999999999999999999", "\x00", "ü"} {
		for _, bytes := range []string{"", "x", text, text[:n-1], text[:9], text + text, strings.Repeat("\xff", 99), strings.Repeat("\x00", 99)} {
			strange := disk.New(10000)
			strange.Create(other)
			strange.Append(other, bytes)
			calls := strange.Calls()
			s, e := tides.Open(strange, api.Config{Life: 10, Window: 5}, 0)
			if (s == nil) != (e == api.ErrCorrupt) || e != api.OK && e != api.ErrCorrupt || strange.Calls() != calls {
				t.Fatalf("Open of a file %q with %q = %v, %d", other, bytes, s, e)
			}
			if s != nil {
				put(t, s, 6, 5, 4)
				has(t, s, 6, 0, 9, api.Point{Time: 5, Value: 4})
			}
		}
	}
}

func TestP2QuestionsChangeNothing(t *testing.T) {
	d := disk.New(10000)
	s := open(t, d, 10, 5, 0)
	for i := range 5 {
		put(t, s, i, i, i)
	}
	tick(t, s, 12)
	calls, before := d.Calls(), lies(d)
	for i := -1; i <= api.MaxSeries; i++ {
		for _, from := range edges {
			for _, to := range edges {
				s.Query(i, from, to)
				is(t, s, false, 12)
			}
		}
	}
	if d.Calls() != calls || lies(d) != before {
		t.Error("a question changes the disk")
	}
	has(t, s, 4, least, greatest, api.Point{Time: 4, Value: 4})
	has(t, s, 2, least, greatest)
}

func TestP3Config(t *testing.T) {
	for _, life := range edges {
		for _, window := range edges {
			want := api.OK
			if life < 1 || life > 1<<62 || window < 1 || window > 1<<62 {
				want = api.ErrConfig
			}
			d := disk.New(1000)
			s, e := tides.Open(d, api.Config{Life: life, Window: window}, 9)
			if e != want || (s == nil) != (e != api.OK) {
				t.Fatalf("Open(%d, %d) = %v, %d, want %d", life, window, s, e, want)
			}
			if s == nil {
				continue
			}
			is(t, s, false, 9)
			for k := range api.MaxSeries {
				has(t, s, k, least, greatest)
			}
		}
	}
}

func TestP3Clock(t *testing.T) {
	for _, clock := range edges {
		is(t, open(t, disk.New(1000), 1, 1, clock), false, clock)
	}
}

func TestP3RefusesWhatNoStoreHasWritten(t *testing.T) {
	d := disk.New(1000)
	d.Create("notes")
	if s, e := tides.Open(d, api.Config{Life: 1, Window: 1}, 0); s != nil || e != api.ErrCorrupt {
		t.Errorf("Open = %v, %d", s, e)
	}
	if s, e := tides.Open(d, api.Config{Life: 0, Window: 1}, 0); s != nil || e != api.ErrConfig {
		t.Errorf("ErrConfig is named first: Open = %v, %d", s, e)
	}
}

func TestP3TheStoreThatLiesThere(t *testing.T) {
	d := disk.New(10000)
	for i := range 4 {
		s := open(t, d, 100, 5+i, i)
		put(t, s, 1, i, 10*i)
		put(t, s, 2, 7, i)
	}
	other := disk.New(20000)
	lay(other, d)
	for _, d := range []*disk.Disk{d, other} {
		s := open(t, d, 100, 1<<62, 101)
		is(t, s, false, 101)
		has(t, s, 1, least, greatest, points{{Time: 2, Value: 20}, {Time: 3, Value: 30}}...)
		has(t, s, 2, least, greatest, api.Point{Time: 7, Value: 3})
	}
}

func TestP4PutReplaces(t *testing.T) {
	s := open(t, disk.New(10000), 10, 5, 0)
	for _, v := range edges {
		put(t, s, 5, 1, v)
		put(t, s, 6, 1, 0)
		has(t, s, 5, least, greatest, api.Point{Time: 1, Value: v})
	}
	put(t, s, 5, 2, 7)
	put(t, s, 5, 0, 8)
	has(t, s, 5, least, greatest, points{{Time: 0, Value: 8}, {Time: 1, Value: greatest}, {Time: 2, Value: 7}}...)
	has(t, s, 6, least, greatest, api.Point{Time: 1})
}

func TestP4EachSeriesHasItsOwn(t *testing.T) {
	s := open(t, disk.New(10000), 10, 5, 0)
	for k := range api.MaxSeries {
		put(t, s, k, 3, 100+k)
	}
	for k := range api.MaxSeries {
		has(t, s, k, 3, 3, api.Point{Time: 3, Value: 100 + k})
	}
}

func TestP5Example(t *testing.T) {
	s := open(t, disk.New(10000), 10, 5, 0)
	for _, p := range (points{{Time: 7, Value: 70}, {Time: -4, Value: 1}, {Time: 2, Value: 20}, {Time: 7, Value: 71}}) {
		put(t, s, 3, p.Time, p.Value)
	}
	has(t, s, 3, -100, 100, points{{Time: -4, Value: 1}, {Time: 2, Value: 20}, {Time: 7, Value: 71}}...)
	tick(t, s, 6)
	has(t, s, 3, -100, 100, points{{Time: 2, Value: 20}, {Time: 7, Value: 71}}...)
	has(t, s, 3, 3, 7, api.Point{Time: 7, Value: 71})
	has(t, s, 3, 7, 3)
	tick(t, s, greatest)
	put(t, s, 0, greatest-9, 5)
	put(t, s, 0, greatest-10, 6)
	has(t, s, 0, least, greatest, api.Point{Time: greatest - 9, Value: 5})
}

func TestP5BothEndsAreIncluded(t *testing.T) {
	s := open(t, disk.New(10000), 1<<62, 5, least)
	for _, time := range edges {
		put(t, s, 0, time, 1)
	}
	for _, from := range edges {
		for _, to := range edges {
			var want points
			for _, time := range edges {
				if from <= time && time <= to {
					want = append(want, api.Point{Time: time, Value: 1})
				}
			}
			has(t, s, 0, from, to, want...)
		}
	}
}

// alive, of whole numbers without bounds.
func alive(time, life, clock int) bool {
	sum := new(big.Int).Add(big.NewInt(int64(time)), big.NewInt(int64(life)))
	return sum.Cmp(big.NewInt(int64(clock))) > 0
}

func TestP5Alive(t *testing.T) {
	for _, life := range []int{1, 2, 8, 1<<62 - 1, 1 << 62} {
		for _, clock := range edges {
			times := slices.Clone(edges)
			for i := -1; i <= 1; i++ {
				times = append(times, clock-life+i, clock+i) // (wherever these wrap round to)
			}
			for _, time := range times {
				var want points
				if alive(time, life, clock) {
					want = points{{Time: time, Value: 8}}
				}
				s := open(t, disk.New(1000), life, 3, clock)
				put(t, s, 1, time, 8)
				has(t, s, 1, least, greatest, want...)
				has(t, s, 1, time, time, want...)
				s = open(t, disk.New(1000), life, 3, least)
				put(t, s, 1, time, 8)
				tick(t, s, greatest) // to -1
				if clock < 0 {
					continue
				}
				tick(t, s, clock)
				tick(t, s, 1)
				is(t, s, false, clock)
				has(t, s, 1, time, time, want...)
			}
		}
	}
}

func TestP6Tick(t *testing.T) {
	for _, c := range []struct{ clock, ticks, want int }{
		{0, 0, 0}, {5, 3, 8}, {-5, 3, -2}, {least, 0, least}, {least, greatest, -1}, {-1, greatest, greatest - 1}, {0, greatest, greatest}, {1, greatest, greatest}, {greatest, 0, greatest}, {greatest, 1, greatest}, {greatest - 1, 1, greatest}, {greatest - 1, 2, greatest}, {greatest, greatest, greatest}, {-1 << 62, 1 << 62, 0},
	} {
		s := open(t, disk.New(1000), 1, 1, c.clock)
		tick(t, s, c.ticks)
		is(t, s, false, c.want)
		for _, n := range []int{-1, -5, least, least + 1} {
			if e := s.Tick(n); e != api.ErrTime {
				t.Errorf("Tick(%d) = %d", n, e)
			}
		}
		is(t, s, false, c.want)
	}
}

func TestP6TickGoesOnWhenReadOnly(t *testing.T) {
	s := open(t, disk.New(0), 1, 1, 0)
	s.Put(0, 0, 0)
	tick(t, s, 4)
	is(t, s, true, 4)
	if e := s.Tick(-1); e != api.ErrTime {
		t.Errorf("Tick(-1) = %d", e)
	}
}

// model: what a store has to tell, in the plainest way.
type model struct {
	values      [api.MaxSeries]map[int]int
	life, clock int
}

func (m *model) query(series, from, to int) points {
	var l points
	for _, time := range slices.Sorted(maps.Keys(m.values[series])) {
		if from <= time && time <= to && alive(time, m.life, m.clock) {
			l = append(l, api.Point{Time: time, Value: m.values[series][time]})
		}
	}
	return l
}

// random: the same numbers each time.
type random uint64

func (r *random) below(n int) int {
	*r = *r*6364136223846793005 + 1442695040888963407
	return int(*r>>33) % n
}

func TestAgainstTheModel(t *testing.T) {
	for seed := range 200 {
		r := random(seed)
		m := model{life: 1 + r.below(40), clock: r.below(100) - 50}
		for k := range m.values {
			m.values[k] = map[int]int{}
		}
		d := disk.New(1 << 20)
		s := open(t, d, m.life, 1+r.below(9), m.clock)
		for i := range 300 {
			series, time := r.below(api.MaxSeries), m.clock+r.below(100)-50
			switch r.below(8) {
			case 0, 1, 2, 3:
				put(t, s, series, time, i)
				m.values[series][time] = i
			case 4:
				n := r.below(12)
				tick(t, s, n)
				m.clock += n
			case 5:
				switch r.below(9) {
				case 0:
					s = open(t, d, m.life, 1+r.below(9), m.clock)
				case 1:
					flush(t, s)
				case 2:
					compact(t, s)
				}
			default:
				to := time + r.below(60) - 10
				has(t, s, series, time, to, m.query(series, time, to)...)
			}
			is(t, s, false, m.clock)
		}
	}
}

func TestManyGoroutines(t *testing.T) {
	d := disk.New(1 << 20)
	s := open(t, d, 1000, 5, 0)
	var wait sync.WaitGroup
	for k := range api.MaxSeries {
		wait.Go(func() {
			for i := range 50 {
				s.Put(k, i, k)
				s.Tick(1)
				if l, _ := s.Query(k, 0, greatest); len(l) != i+1 {
					t.Errorf("series %d has %d points behind %d Puts", k, len(l), i+1)
				}
				if e, f, c := s.Sync(), s.Flush(), s.Compact(); e != api.OK || f != e || c != e {
					t.Errorf("Sync = %d, Flush = %d, Compact = %d", e, f, c)
				}
				s.State()
			}
		})
	}
	wait.Wait()
	is(t, s, false, 50*api.MaxSeries)
	d.Crash(0, nil)
	again := open(t, d, 1000, 5, 0)
	for k := range api.MaxSeries {
		l, _ := s.Query(k, least, greatest)
		has(t, again, k, least, greatest, l...)
	}
}

func TestManyGoroutinesTick(t *testing.T) {
	s := open(t, disk.New(0), 1, 1, 0)
	var wait sync.WaitGroup
	for range 8 {
		wait.Go(func() {
			for range 50000 {
				s.Tick(1)
			}
		})
	}
	wait.Wait()
	is(t, s, false, 8*50000)
}
