package tides_test

import (
	"cmp"
	"math/big"
	"os"
	"runtime/debug"
	"slices"
	"strconv"
	"strings"
	"testing"

	"tides/api"
	"tides/disk"
	"tides/tides"
)

// The tests make very many disks, and keep few of them.
func TestMain(m *testing.M) {
	debug.SetGCPercent(800)
	os.Exit(m.Run())
}

// everyCrash gives each disk that a crash may leave of one: with each beginning of what was done to the directory, and of each file's bytes, one by one and together. A disk behind a crash is all in its names and bytes: so none is given twice.
func everyCrash(d *disk.Disk, check func(*disk.Disk)) {
	begun, seen := map[string]bool{}, map[string]bool{}
	for dirs := range min(d.Calls(), 40) + 1 {
		ends := unsafe(d, dirs)
		if text := lies(crashed(d, dirs, nil)) + lies(crashed(d, dirs, ends)); begun[text] {
			continue // as many changes of the directory ahead, or none that matter between
		} else {
			begun[text] = true
		}
		eachTails(crashed(d, dirs, nil).List(), ends, func(tails []int) {
			c := crashed(d, dirs, tails)
			if text := lies(c); !seen[text] {
				seen[text] = true
				check(c)
			}
		})
	}
}

func crashed(d *disk.Disk, dirs int, tails []int) *disk.Disk {
	c := d.Copy()
	c.Crash(dirs, tails)
	return c
}

// unsafe: how many bytes of each file a crash may take, where it leaves so much of the directory.
func unsafe(d *disk.Disk, dirs int) []int {
	var ends []int
	bare := crashed(d, dirs, nil)
	for _, name := range bare.List() {
		least, _ := bare.Size(name)
		now, _ := d.Size(name)
		n := max(now-least, 0) // so many, if it is the same file now
		for ; ; n++ {
			if more, _ := crashed(d, dirs, append(ends, n+1)).Size(name); more == least { // one more than there are is none
				break
			}
		}
		ends = append(ends, n)
	}
	return ends
}

// eachTails gives the beginnings of all files together. Of a file that is written at once it gives but some: TestP11EachByteOfAFlush gives all.
func eachTails(names []string, ends []int, check func(tails []int)) {
	tails := make([]int, len(ends))
	var from func(i int)
	from = func(i int) {
		if i == len(tails) {
			check(tails)
			return
		}
		for k := range ends[i] + 1 {
			if names[i][0] == 'l' || k < 2 || k == ends[i]/2 || k > ends[i]-2 {
				tails[i] = k
				from(i + 1)
			}
		}
	}
	from(0)
}

// aPut: what a Put was given.
type aPut struct{ series, time, value int }

const life = 20

// lives: alive, with this life.
func lives(time, clock int) bool { return time > greatest-life || time+life > clock }

// windows of the stores that a run opens, one behind the other.
var windows = [...]int{1 << 62, 2, 5, 1, 13, 3}

// made: what Puts have made that is alive, as a text.
func made(puts []aPut, clock int) string {
	var rows [api.MaxSeries]map[int]int
	for _, p := range puts {
		if rows[p.series] == nil {
			rows[p.series] = map[int]int{}
		}
		if lives(p.time, clock) {
			rows[p.series][p.time] = p.value
		}
	}
	var b strings.Builder
	for k, row := range rows {
		var l points
		for time, value := range row {
			l = append(l, api.Point{Time: time, Value: value})
		}
		slices.SortFunc(l, func(p, q api.Point) int { return cmp.Compare(p.Time, q.Time) })
		write(&b, k, l)
	}
	return b.String()
}

func write(b *strings.Builder, series int, l points) {
	for _, p := range l {
		b.WriteString(strconv.Itoa(series) + " has " + strconv.Itoa(p.Time) + "=" + strconv.Itoa(p.Value) + "; ")
	}
}

// most: how many bytes the files may have behind a Compact (P9): 300, and 150 for each point that must be kept.
func most(puts []aPut, clock, window int) int {
	windowOf := func(time int) string {
		return new(big.Int).Div(big.NewInt(int64(time)), big.NewInt(int64(window))).String() // (of a window above 0: rounded down)
	}
	places, windows := map[aPut]bool{}, map[string]bool{}
	for _, p := range puts {
		places[aPut{series: p.series, time: p.time}] = true
		if lives(p.time, clock) {
			windows[windowOf(p.time)] = true
		}
	}
	n := 300
	for p := range places {
		if windows[windowOf(p.time)] {
			n += 150
		}
	}
	return n
}

// run: a store, the Puts that were made on its disk, how many of them are durable, and, if one took effect though the power was cut in it, these and that one.
type run struct {
	*testing.T
	d        *disk.Disk
	room     int
	s        *tides.Store
	clock    int
	window   int
	readOnly bool
	puts     []aPut
	safe     int
	cut      []aPut
	broken   string // what lay on the disk behind the call in which it failed, or was full, last
	next     int    // counts the Puts, so that each has a value of its own, and the Opens, so that each has another Window
}

func begin(t *testing.T, room int) *run {
	return &run{T: t, d: disk.New(room), room: room, clock: -1}
}

// other: the same run, which goes on with another disk.
func (r *run) other(d *disk.Disk) *run {
	n := *r
	n.d, n.puts = d, slices.Clone(r.puts)
	return &n
}

func (r *run) tells() string {
	r.Helper()
	calls := r.d.Calls()
	var b strings.Builder
	for k := range api.MaxSeries {
		l, e := r.s.Query(k, least, greatest)
		if e != api.OK {
			r.Fatalf("P5: Query = %d", e)
		}
		write(&b, k, l)
	}
	if st := r.s.State(); st != (api.State{ReadOnly: r.readOnly, Clock: r.clock}) {
		r.Fatalf("P10: State() = %+v, want %v, %d", st, r.readOnly, r.clock)
	}
	if r.d.Calls() != calls {
		r.Fatal("P2: a question makes a call of the disk")
	}
	return b.String()
}

// asked: what a disk was asked and answered so far, and the room that it has.
type asked struct{ calls, refused, fulls, free int }

func (r *run) asked() asked {
	return asked{calls: r.d.Calls(), refused: r.d.Refused(), fulls: r.d.Fulls(), free: r.room - r.d.Used()}
}

// answered holds what a call was answered against what the disk was asked and answered in it.
func (r *run) answered(what string, e api.Errno, before asked) {
	r.Helper()
	want, now := api.OK, r.asked()
	switch {
	case r.readOnly:
		want = api.ErrReadOnly
		if now.calls > before.calls {
			r.Fatalf("P1: %s of a store that is read-only makes a call of the disk", what)
		}
	case now.fulls > before.fulls:
		want = api.ErrFull
		if before.free >= api.Need && (what == "Put" || what == "Sync") {
			r.Fatalf("P10: a full disk in a %s with room for %d bytes", what, before.free)
		}
	case now.refused > before.refused:
		want = api.ErrIO
	}
	if e != want {
		r.Fatalf("P10: %s = %d, want %d", what, e, want)
	}
	if now.refused > before.refused {
		r.broken = lies(r.d)
	}
}

// open opens the disk, with another Window each time.
func (r *run) open() {
	r.Helper()
	before := r.asked()
	r.next++
	r.window = windows[r.next%len(windows)]
	s, e := tides.Open(r.d, api.Config{Life: life, Window: r.window}, r.clock)
	r.readOnly = false
	r.answered("Open", e, before)
	if (s == nil) != (e != api.OK) {
		r.Fatalf("P3: Open = %v, %d", s, e)
	}
	r.s = s
}

func (r *run) put(p aPut) {
	r.Helper()
	before := r.asked()
	e := r.s.Put(p.series, p.time, p.value)
	r.answered("Put", e, before)
	with := append(slices.Clone(r.puts), p)
	if e == api.OK {
		r.puts = with
	}
	if e == api.ErrIO || e == api.ErrFull {
		r.readOnly = true
		took := r.tells() == made(with, r.clock)
		if took && r.d.Dead() {
			r.cut = with
		} else if took {
			r.puts = with
		}
		r.refuses()
	}
	if got := r.tells(); got != made(r.puts, r.clock) && (r.cut == nil || got != made(r.cut, r.clock)) {
		r.Fatalf("P4: Put(%v) = %d, behind %v: %s", p, e, r.puts, got)
	}
}

// orders makes a Sync, a Flush or a Compact: none of them changes what Query tells.
func (r *run) orders(what string, call func() api.Errno) {
	r.Helper()
	before, told := r.asked(), r.tells()
	e := call()
	r.answered(what, e, before)
	if e == api.OK {
		r.safe = len(r.puts)
	}
	if n := most(r.puts, r.clock, r.window); e == api.OK && what == "Compact" && r.d.Used() > n {
		r.Fatalf("P9: behind a Compact there are %d bytes, more than %d", r.d.Used(), n)
	}
	if e == api.ErrIO || e == api.ErrFull {
		r.readOnly = true
		r.refuses()
	}
	if got := r.tells(); got != told {
		r.Fatalf("P7 to P9: behind %s = %d: %s, want %s", what, e, got, told)
	}
}

func (r *run) tick(n int) {
	r.Helper()
	if e := r.s.Tick(n); e != api.OK {
		r.Fatalf("P6: Tick = %d", e)
	}
	r.clock += n
}

// refuses holds a store that is read-only to its answers: errors that are named ahead of ErrReadOnly go ahead of it, and nothing changes.
func (r *run) refuses() {
	r.Helper()
	told, calls, lay := r.tells(), r.d.Calls(), lies(r.d)
	if p, s, f, c := r.s.Put(7, r.clock, r.next), r.s.Sync(), r.s.Flush(), r.s.Compact(); p != api.ErrReadOnly || s != p || f != p || c != p {
		r.Fatalf("P10: read-only: Put = %d, Sync = %d, Flush = %d, Compact = %d", p, s, f, c)
	}
	for _, k := range []int{least, -1, api.MaxSeries, greatest} {
		l, q := r.s.Query(k, least, greatest)
		if p := r.s.Put(k, r.clock, 0); p != api.ErrSeries || q != p || l != nil {
			r.Fatalf("P10: read-only: of the series %d: Put = %d, Query = %v, %d", k, p, l, q)
		}
	}
	if e := r.s.Tick(-1); e != api.ErrTime {
		r.Fatalf("P6: read-only: Tick(-1) = %d", e)
	}
	if got := r.tells(); got != told || r.d.Calls() != calls || lies(r.d) != lay {
		r.Fatalf("P10: read-only: what is refused changes something: %s, before it %s", got, told)
	}
}

// does makes calls till the power is cut: p a Put of what is alive, q one of a time further off, which may be dead, s a Sync, f a Flush, c a Compact, t a Tick, o an Open, and O an Open with a later clock.
func (r *run) does(script string) {
	r.Helper()
	for _, c := range script {
		if r.d.Dead() {
			return
		}
		if c == 'o' || c == 'O' {
			if c == 'O' {
				r.clock += 4
			}
			r.open()
			if got := made(r.puts, r.clock); r.s != nil && r.tells() != got {
				r.Fatalf("P11: %s: opened anew: %s, want %s", script, r.tells(), got)
			}
		} else if r.s != nil {
			r.calls(c)
		}
	}
}

func (r *run) calls(c rune) {
	r.Helper()
	switch c {
	case 'p':
		r.next++
		r.put(aPut{series: r.next % 2 * 7, time: r.clock + r.next%3, value: r.next})
	case 'q':
		r.next++
		time := r.clock + r.next*37%80 - 50
		if r.next%16 == 0 {
			time = edges[r.next/16%len(edges)]
		}
		r.put(aPut{series: r.next % api.MaxSeries, time: time, value: r.next})
	case 's':
		r.orders("Sync", r.s.Sync)
	case 'f':
		r.orders("Flush", r.s.Flush)
	case 'c':
		r.orders("Compact", r.s.Compact)
	case 't':
		r.tick(9)
	}
}

// behind opens what a crash has left, and tells how many Puts there are now: at least those that were durable.
func (r *run) behind(c *disk.Disk) *run {
	r.Helper()
	n := r.other(c)
	n.cut = nil
	n.open()
	if n.s == nil {
		r.Fatal("P3: behind a crash no Open")
	}
	got := n.tells()
	if r.cut != nil && got == made(r.cut, r.clock) {
		n.puts = slices.Clone(r.cut)
		return n
	}
	for k := len(r.puts); k >= r.safe; k-- {
		if got == made(r.puts[:k], r.clock) {
			n.puts = n.puts[:k]
			return n
		}
	}
	r.Fatalf("P11: behind %v (the power was cut: %v), %d of them durable: %s", r.puts, r.cut, r.safe, got)
	return nil
}

// eachCut does a script again and again from where begun begins it, the power cut at each call of the disk in turn, and at last at none; and gives what has come of each.
func eachCut(begun func() *run, script string, check func(*run)) {
	for n := 1; ; n++ {
		r := begun()
		r.d.Cut(n)
		r.does(script)
		dead := r.d.Dead()
		check(r)
		if !dead {
			return
		}
	}
}

// eachFailure does a script again and again from where begun begins it, each call of the disk in turn failing, an Append with each part of its bytes, and at last none; and gives what has come of each.
func eachFailure(begun func() *run, script string, check func(*run)) {
	for n := 1; ; n++ {
		first := ""
		for part := 0; ; part++ {
			r := begun()
			calls := r.d.Calls()
			r.d.Fail(n, part)
			r.does(script)
			r.d.Fail(0, 0)
			failed := r.d.Calls() >= calls+n
			if part == 0 {
				first = r.broken
			} else if r.broken == first { // the parts have come round
				break
			}
			check(r)
			if !failed {
				return
			}
		}
	}
}

// scripts have Opens, Puts and Syncs in each order.
var scripts = []string{"o", "os", "op", "ops", "opp", "opsp", "oppspps", "opospso", "opppopop", "opoposo", "ooosoo", "opsopopsop", "oppOppsOpp", "optpsptpOpsp", "oposOspsp", "opppsssppp"}

// orderly scripts have Flushes and Compacts too: of nothing, twice in a row, of what an earlier store has put, and behind Ticks that let some, all or none pass.
var orderly = []string{"of", "oc", "off", "occ", "opf", "opc", "opff", "opcc", "oppfp", "opcop", "opof", "opsoc", "opfpc", "opfpf", "opcpc", "opfOc", "opttfc", "opttpc", "opftttc", "opftpOfc", "oqqf", "oqqqc", "oqfqOc"}
