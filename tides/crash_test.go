package tides_test

import (
	"slices"
	"strconv"
	"strings"
	"testing"

	"tides/api"
	"tides/disk"
	"tides/tides"
)

// everyCrash gives each disk that a crash may leave of one: with each beginning of what was done to the directory, and of each file's bytes, one by one and together. A disk behind a crash is all in its names and bytes: so none is given twice.
func everyCrash(d *disk.Disk, check func(*disk.Disk)) {
	seen := map[string]bool{}
	crashed := func(dirs int, tails []int) *disk.Disk {
		c := d.Copy()
		c.Crash(dirs, tails)
		return c
	}
	for dirs := range 6 {
		bare := crashed(dirs, nil)
		tails := make([]int, len(bare.List()))
		for c := bare; c != nil; {
			if text := lies(c); !seen[text] {
				seen[text] = true
				check(c.Copy())
			}
			c = nil
			for i, name := range bare.List() {
				tails[i]++
				more := crashed(dirs, tails)
				least, _ := bare.Size(name)
				if n, _ := more.Size(name); n > least {
					c = more
					break
				}
				tails[i] = 0 // one more than there are is none
			}
		}
	}
}

// aPut: what a Put was given.
type aPut struct{ series, time, value int }

const life = 20

// made: what Puts have made that is alive, as a text.
func made(puts []aPut, clock int) string {
	var rows [api.MaxSeries]map[int]int
	for _, p := range puts {
		if rows[p.series] == nil {
			rows[p.series] = map[int]int{}
		}
		if p.time+life > clock {
			rows[p.series][p.time] = p.value
		}
	}
	var b strings.Builder
	for k, row := range rows {
		var l points
		for time, value := range row {
			l = append(l, api.Point{Time: time, Value: value})
		}
		slices.SortFunc(l, func(p, q api.Point) int { return p.Time - q.Time })
		write(&b, k, l)
	}
	return b.String()
}

func write(b *strings.Builder, series int, l points) {
	for _, p := range l {
		b.WriteString(strconv.Itoa(series) + " has " + strconv.Itoa(p.Time) + "=" + strconv.Itoa(p.Value) + "; ")
	}
}

// run: a store, the Puts that were made on its disk, how many of them are durable, and the one in which the power was cut.
type run struct {
	*testing.T
	d        *disk.Disk
	s        *tides.Store
	clock    int
	readOnly bool
	puts     []aPut
	safe     int
	cut      []aPut
	next     int // counts the Puts, so that each has a value of its own, and the Opens, so that each has another Window
}

func begin(t *testing.T, room int) *run {
	return &run{T: t, d: disk.New(room)}
}

func (r *run) tells() string {
	r.Helper()
	calls := r.d.Calls()
	var b strings.Builder
	for k := range api.MaxSeries {
		l, e := r.s.Query(k, least, greatest)
		if e != api.OK {
			r.Fatalf("P5: Query = %d", e)
		}
		write(&b, k, l)
	}
	if st := r.s.State(); st != (api.State{ReadOnly: r.readOnly, Clock: r.clock}) {
		r.Fatalf("P10: State() = %+v, want %v, %d", st, r.readOnly, r.clock)
	}
	if r.d.Calls() != calls {
		r.Fatal("P2: a question makes a call of the disk")
	}
	return b.String()
}

// answered holds what a Put, Sync or Open was answered against what the disk was asked and answered in it.
func (r *run) answered(what string, e api.Errno, before disk.Disk) {
	r.Helper()
	want := api.OK
	switch {
	case r.readOnly:
		want = api.ErrReadOnly
		if r.d.Calls() > before.Calls() {
			r.Fatalf("P1: %s of a store that is read-only makes a call of the disk", what)
		}
	case r.d.Fulls() > before.Fulls():
		want = api.ErrFull
	case r.d.Refused() > before.Refused():
		want = api.ErrIO
	}
	if e != want {
		r.Fatalf("P10: %s = %d, want %d", what, e, want)
	}
}

// open opens the disk, with another Window each time.
func (r *run) open() {
	r.Helper()
	before := *r.d
	r.next++
	s, e := tides.Open(r.d, api.Config{Life: life, Window: 1 + r.next*7%19}, r.clock)
	r.readOnly = false
	r.answered("Open", e, before)
	if (s == nil) != (e != api.OK) {
		r.Fatalf("P3: Open = %v, %d", s, e)
	}
	r.s = s
}

func (r *run) put(p aPut) {
	r.Helper()
	before := *r.d
	e := r.s.Put(p.series, p.time, p.value)
	r.answered("Put", e, before)
	with := append(slices.Clone(r.puts), p)
	switch {
	case e == api.OK:
		r.puts = with
	case e == api.ErrReadOnly:
	case r.d.Dead():
		r.readOnly = true
		r.cut = with
	default:
		r.readOnly = true
		if got := r.tells(); got == made(with, r.clock) {
			r.puts = with
		}
	}
	if got := r.tells(); got != made(r.puts, r.clock) && (r.cut == nil || got != made(r.cut, r.clock)) {
		r.Fatalf("P4: Put(%v) = %d, behind %v: %s", p, e, r.puts, got)
	}
}

func (r *run) sync() {
	r.Helper()
	before := *r.d
	e := r.s.Sync()
	r.answered("Sync", e, before)
	r.readOnly = r.readOnly || e != api.OK
	if e == api.OK {
		r.safe = len(r.puts)
	}
	if got := r.tells(); got != made(r.puts, r.clock) && r.cut == nil {
		r.Fatalf("P7: behind Sync = %d: %s, want %s", e, got, made(r.puts, r.clock))
	}
}

func (r *run) tick(n int) {
	r.Helper()
	if e := r.s.Tick(n); e != api.OK {
		r.Fatalf("P6: Tick = %d", e)
	}
	r.clock += n
}

// does makes calls till the power is cut: p a Put, s a Sync, t a Tick, o an Open, and O an Open with a later clock.
func (r *run) does(script string) {
	r.Helper()
	for _, c := range script {
		if r.d.Dead() {
			return
		}
		switch c {
		case 'p':
			r.next++
			r.put(aPut{series: r.next % 2 * 7, time: r.clock + r.next%3, value: r.next})
		case 's':
			r.sync()
		case 't':
			r.tick(9)
		case 'O', 'o':
			if c == 'O' {
				r.clock += 4
			}
			r.open()
			if got := made(r.puts, r.clock); r.s != nil && r.tells() != got {
				r.Fatalf("P11: %s: opened anew: %s, want %s", script, r.tells(), got)
			}
		}
	}
}

// behind opens what a crash has left, and tells how many Puts there are now: at least those that were durable.
func (r *run) behind(c *disk.Disk) *run {
	r.Helper()
	n := *r
	n.d, n.cut = c, nil
	n.open()
	if n.s == nil {
		r.Fatal("P3: behind a crash no Open")
	}
	got := n.tells()
	if r.cut != nil && got == made(r.cut, r.clock) {
		n.puts = slices.Clone(r.cut)
		return &n
	}
	for k := len(r.puts); k >= r.safe; k-- {
		if got == made(r.puts[:k], r.clock) {
			n.puts = slices.Clone(r.puts[:k])
			return &n
		}
	}
	r.Fatalf("P11: behind %v (the power was cut: %v), %d of them durable: %s", r.puts, r.cut, r.safe, got)
	return nil
}

// eachCut does a script again and again from where begun begins it, the power cut at each call of the disk in turn, and at last at none; and gives what has come of each.
func eachCut(begun func() *run, script string, check func(*run)) {
	for n := 1; ; n++ {
		r := begun()
		r.d.Cut(n)
		r.does(script)
		dead := r.d.Dead()
		check(r)
		if !dead {
			return
		}
	}
}

// scripts have Opens, Puts and Syncs in each order.
var scripts = []string{"o", "os", "op", "ops", "opp", "opsp", "oppspps", "opospso", "opppopop", "opoposo", "ooosoo", "opsopopsop", "oppOppsOpp", "optpsptpOpsp", "oposOspsp", "opppsssppp"}

func TestP11CrashAtEachCall(t *testing.T) {
	for _, script := range scripts {
		cuts, crashes := 0, 0
		eachCut(func() *run { return begin(t, 10000) }, script, func(r *run) {
			cuts++
			everyCrash(r.d, func(c *disk.Disk) {
				crashes++
				r.behind(c).does("oOppospO")
			})
		})
		if strings.Contains(script, "p") && (cuts < 4 || crashes < 30) {
			t.Errorf("%s: %d cuts and %d crashes are too few", script, cuts, crashes)
		}
	}
}

// The second crash strikes what the first has left: in the Open behind it, and in what is put then.
func TestP11TwoCrashes(t *testing.T) {
	for _, first := range []string{"op", "opspp", "opops"} {
		for _, second := range []string{"opps", "spos"} {
			t.Run(first+" "+second, func(t *testing.T) {
				t.Parallel()
				eachCut(func() *run { return begin(t, 10000) }, first, func(r *run) {
					everyCrash(r.d, func(c *disk.Disk) {
						eachCut(func() *run { return r.behind(c.Copy()) }, second, func(r *run) {
							everyCrash(r.d, func(c *disk.Disk) { r.behind(c).does("o") })
						})
					})
				})
			})
		}
	}
}

func TestP11ManyCrashes(t *testing.T) {
	for seed := range 400 {
		x := random(seed)
		r := begin(t, 100000)
		r.does("o")
		for range 12 {
			script := ""
			for range x.below(14) {
				script += string("ppppppsstoO"[x.below(11)])
			}
			r.d.Cut(x.below(30))
			r.does(script)
			if !r.d.Dead() && x.below(2) == 0 {
				r.does("o")
				continue
			}
			r.d.Crash(x.below(100), []int{x.below(100), x.below(100), x.below(100), x.below(100), x.below(100), x.below(100)})
			r = r.behind(r.d)
		}
	}
}

// The power is cut within an Open, and within the next one, and the next one has all that was durable.
func TestP11CutWithinOpen(t *testing.T) {
	for _, script := range []string{"o", "opp", "opps", "oppspp", "opposppop"} {
		begun := func() *run {
			r := begin(t, 10000)
			r.does(script)
			return r
		}
		eachCut(begun, "o", func(r *run) {
			everyCrash(r.d, func(c *disk.Disk) {
				again := func() *run {
					n := r.behind(c.Copy())
					n.d = c.Copy()
					return n
				}
				eachCut(again, "o", func(r *run) {
					everyCrash(r.d, func(c *disk.Disk) { r.behind(c).does("ops") })
				})
			})
		})
	}
}

// What a crash has left out is left out for good: the Puts behind it are not mixed with it, and it does not come back.
func TestP11WhatIsLostIsLost(t *testing.T) {
	r := begin(t, 10000)
	r.does("oppspppp")
	most := 0
	everyCrash(r.d, func(c *disk.Disk) {
		n := r.behind(c)
		lost := r.puts[len(n.puts):]
		most = max(most, len(lost))
		n.does("psoOpo")
		n.does("tsO")
		for _, p := range lost {
			if strings.Contains(n.tells(), "="+strconv.Itoa(p.value)+";") && !slices.Contains(n.puts, p) {
				t.Fatalf("%v is back: %s", p, n.tells())
			}
		}
	})
	if most != 4 {
		t.Errorf("at most %d Puts are lost, of 4 that are not durable", most)
	}
}

func TestP11OtherWindowsAndLaterClocks(t *testing.T) {
	r := begin(t, 10000)
	r.open()
	for i := range 12 {
		r.put(aPut{series: i % 3, time: 5*i - 30, value: i})
	}
	r.sync()
	r.put(aPut{series: 0, time: -30, value: 99})
	everyCrash(r.d, func(c *disk.Disk) {
		for _, window := range []int{1, 2, 5, 20, 1000, 1<<62 - 1, 1 << 62} {
			n := *r
			n.d = c.Copy()
			for _, clock := range []int{0, 0, 1, 5, 14, 15, 44, 45, 46} {
				n.clock = clock
				n.s = open(t, n.d, life, window, clock)
				// What is put last is not alive: so it does not matter whether it is there.
				if got, want := n.tells(), made(r.puts, clock); got != want {
					t.Fatalf("Window %d, clock %d: %s, want %s", window, clock, got, want)
				}
			}
		}
	})
}

// At the ends of the Ints too.
func TestP11EdgesOfTheNumbers(t *testing.T) {
	d := disk.New(100000)
	s := open(t, d, 1<<62, 1, least)
	var want points
	for i, time := range edges {
		put(t, s, i%api.MaxSeries, time, edges[len(edges)-1-i])
		put(t, s, 7, time, time)
		want = append(want, api.Point{Time: time, Value: time})
	}
	if e := s.Sync(); e != api.OK {
		t.Fatalf("Sync = %d", e)
	}
	d.Crash(0, nil)
	for _, window := range edges {
		if window < 1 || window > 1<<62 {
			continue
		}
		has(t, open(t, d, 1<<62, window, least), 7, least, greatest, want...)
	}
	for _, clock := range edges {
		var left points
		for _, p := range want {
			if alive(p.Time, 1<<62, clock) {
				left = append(left, p)
			}
		}
		has(t, open(t, d, 1<<62, 3, clock), 7, least, greatest, left...)
	}
}

func TestP7WhatIsSyncedIsDurable(t *testing.T) {
	for before := range 6 {
		for behind := range 3 {
			r := begin(t, 10000)
			r.does("o" + strings.Repeat("p", before) + "s" + strings.Repeat("p", behind))
			if r.safe != before || len(r.puts) != before+behind {
				t.Fatalf("%d of %d Puts are durable, want %d", r.safe, len(r.puts), before)
			}
			everyCrash(r.d, func(c *disk.Disk) { r.behind(c) })
			r.d.Crash(0, nil)
			r.behind(r.d)
		}
	}
}

// A Sync is of every Put ahead of it: of those of stores that were open earlier too.
func TestP7SyncIsOfEarlierStoresToo(t *testing.T) {
	for _, script := range []string{"oppos", "oppops", "oppopos", "opopopos", "opsopos", "opooos", "opposos"} {
		r := begin(t, 10000)
		r.does(script)
		if r.safe != len(r.puts) {
			t.Fatalf("%s: %d of %d Puts are durable", script, r.safe, len(r.puts))
		}
		everyCrash(r.d, func(c *disk.Disk) { r.behind(c) })
	}
}

// What took effect though the disk failed is durable behind the next store's Sync, and what did not never comes.
func TestP7SyncBehindFailures(t *testing.T) {
	for _, script := range []string{"opp", "opsp", "opspsp", "opoppsp"} {
		for n := 1; n <= 9; n++ {
			for part := range 25 {
				r := begin(t, 10000)
				r.does("opo")
				r.d.Fail(n, part)
				r.does(script)
				everyCrash(r.d, func(c *disk.Disk) { r.behind(c).does("pso") })
				r.d.Fail(0, 0)
				r.does("os")
				if r.safe != len(r.puts) {
					t.Fatalf("%s, call %d failing: %d of %d Puts are durable", script, n, r.safe, len(r.puts))
				}
				r.does("p")
				everyCrash(r.d, func(c *disk.Disk) { r.behind(c) })
			}
		}
	}
}

func TestP7SyncOfNothing(t *testing.T) {
	for _, room := range []int{0, 1, 10000} {
		r := begin(t, room)
		r.does("osOsos")
		if r.readOnly {
			t.Errorf("room %d: read-only", room)
		}
		everyCrash(r.d, func(c *disk.Disk) { r.behind(c) })
	}
}

// On a disk that is a copy of another nothing was synced: a Sync makes all of it safe that the store has.
func TestP7SyncOfACopiedDisk(t *testing.T) {
	r := begin(t, 10000)
	r.does("oppsoppopspopo")
	for _, script := range []string{"os", "ops", "oposs"} {
		n := *r
		n.d = disk.New(10000)
		for _, name := range r.d.List() {
			size, _ := r.d.Size(name)
			text, _ := r.d.Read(name, 0, size)
			n.d.Create(name)
			n.d.Append(name, text)
		}
		n.does(script)
		if n.safe != len(n.puts) {
			t.Fatalf("%s: %d of %d Puts are durable", script, n.safe, len(n.puts))
		}
		n.d.Crash(0, nil)
		n.behind(n.d)
	}
}

// Each call of the disk that a Sync makes fails in turn.
func TestP10FailingSync(t *testing.T) {
	for _, script := range []string{"o", "op", "opp", "oppo", "opposp", "opopo", "opopop"} {
		for n := 1; ; n++ { // till none fails
			r := begin(t, 10000)
			r.does(script)
			r.d.Fail(n, 3)
			r.does("s")
			failed := r.readOnly
			r.does("sps")
			if failed && !r.readOnly {
				t.Fatalf("%s, call %d failing: no longer read-only", script, n)
			}
			if e := r.s.Put(api.MaxSeries, 0, 0); e != api.ErrSeries {
				t.Fatalf("ErrSeries is named first: Put = %d", e)
			}
			r.does("tOpso")
			everyCrash(r.d, func(c *disk.Disk) { r.behind(c) })
			if !failed {
				if n == 1 && len(r.puts) > 1 {
					t.Errorf("%s: a Sync that makes no call of the disk", script)
				}
				break
			}
		}
	}
}

func TestP10FullDiskWithSyncs(t *testing.T) {
	for room := range 2 * api.Need {
		r := begin(t, room)
		r.does("o")
		for i := 0; !r.readOnly && i < 40; i++ {
			for _, call := range []string{"p", "s", "p"} {
				free, fulls := room-r.d.Used(), r.d.Fulls()
				r.does(call)
				if r.d.Fulls() > fulls && free >= api.Need {
					t.Fatalf("room %d, %d of it free: the disk is full in %s", room, free, call)
				}
			}
		}
		if !r.readOnly {
			t.Fatalf("room %d is enough for 80 Puts", room)
		}
		r.does("ps")
		everyCrash(r.d, func(c *disk.Disk) { r.behind(c).does("o") })
		r.does("o")
	}
}

// A power cut in a Put or a Sync is answered ErrIO, and all behind it ErrReadOnly.
func TestP10CutPutAndSync(t *testing.T) {
	eachCut(func() *run { return begin(t, 10000) }, "oppssps", func(r *run) {
		if !r.d.Dead() {
			return
		}
		calls := r.d.Calls()
		p, e := r.s.Put(0, 0, 0), r.s.Sync()
		if p != api.ErrReadOnly || e != api.ErrReadOnly || r.d.Calls() != calls || !r.s.State().ReadOnly {
			t.Errorf("behind a cut: Put = %d, Sync = %d, %+v", p, e, r.s.State())
		}
	})
}

// P1 to P6 of a store that was opened anew, behind a crash that has torn a Put.
func TestP1ToP6OpenedAnew(t *testing.T) {
	r := begin(t, 10000)
	r.does("oppspp")
	everyCrash(r.d, func(c *disk.Disk) {
		n := r.behind(c)
		calls, before, told := c.Calls(), lies(c), n.tells()
		for _, config := range []api.Config{{Life: 0, Window: 5}, {Life: life, Window: 0}, {Life: 1<<62 + 1, Window: 5}, {Life: life, Window: 1<<62 + 1}} {
			if s, e := tides.Open(c, config, 0); s != nil || e != api.ErrConfig {
				t.Fatalf("P3: Open(%+v) = %v, %d", config, s, e)
			}
		}
		for _, k := range []int{least, -1, api.MaxSeries, greatest} {
			l, e := n.s.Query(k, least, greatest)
			if p := n.s.Put(k, 0, 0); p != api.ErrSeries || e != api.ErrSeries || l != nil {
				t.Fatalf("P4, P5: series %d: Put = %d, Query = %v, %d", k, p, l, e)
			}
		}
		for _, k := range []int{least, -1} {
			if e := n.s.Tick(k); e != api.ErrTime {
				t.Fatalf("P6: Tick(%d) = %d", k, e)
			}
		}
		for k := range api.MaxSeries {
			l, _ := n.s.Query(k, least, greatest)
			l = l[:cap(l)]
			clear(l)
		}
		if n.tells() != told || c.Calls() != calls || lies(c) != before {
			t.Fatalf("P1: what is refused changes something: %s, before it %s", n.tells(), told)
		}
		n.put(aPut{series: 3, time: 1, value: 5})
		n.put(aPut{series: 3, time: 1, value: 6})
		n.tick(life)
		has(t, n.s, 3, least, greatest, api.Point{Time: 1, Value: 6})
		has(t, n.s, 3, 2, greatest)
		n.tick(1)
		has(t, n.s, 3, least, greatest)
	})
}
