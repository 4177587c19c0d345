package tides_test

import (
	"slices"
	"strconv"
	"strings"
	"testing"

	"tides/api"
	"tides/disk"
	"tides/tides"
)

func TestP11CrashAtEachCall(t *testing.T) {
	for _, script := range slices.Concat(scripts, orderly) {
		t.Run(script, func(t *testing.T) {
			t.Parallel()
			cuts, crashes := 0, 0
			eachCut(func() *run { return begin(t, 10000) }, script, func(r *run) {
				cuts++
				everyCrash(r.d, func(c *disk.Disk) {
					crashes++
					other := c.Copy()
					r.behind(c).does("oOppospO")
					n := r.behind(other)
					n.does([]string{"qfpc", "cpqf", "fOc", "psOcc"}[crashes%4])
					n.keeps()
				})
			})
			if strings.Contains(script, "p") && (cuts < 4 || crashes < 30) {
				t.Errorf("%d cuts and %d crashes are too few", cuts, crashes)
			}
		})
	}
}

// keeps holds a store on which all is durable to what a crash leaves that takes all that it can.
func (r *run) keeps() {
	r.Helper()
	if r.safe != len(r.puts) {
		r.Fatalf("P7 to P9: %d of %d Puts are durable", r.safe, len(r.puts))
	}
	r.d.Crash(0, nil)
	r.behind(r.d)
}

// A Flush, and a Compact behind it, cut at each call: of each file, and of the directory, each beginning.
func TestP11EachByteOfAFlush(t *testing.T) {
	eachCut(func() *run {
		r := begin(t, 10000)
		r.does("oppfqqsp")
		return r
	}, "fpc", func(r *run) {
		for dirs := range 40 {
			for i, end := range unsafe(r.d, dirs) {
				for k := range end + 1 {
					tails := make([]int, i+1)
					tails[i] = k
					r.behind(crashed(r.d, dirs, tails)).does("pfo")
				}
			}
		}
	})
}

// The second crash strikes what the first has left: in the Open behind it, and in what is put then.
func TestP11TwoCrashes(t *testing.T) {
	for _, first := range []string{"op", "opspp", "opops"} {
		for _, second := range []string{"opps", "spos"} {
			t.Run(first+" "+second, func(t *testing.T) {
				t.Parallel()
				twoCrashes(t, first, second, 1)
			})
		}
	}
	for _, script := range [][2]string{{"opf", "pf"}, {"opf", "oc"}, {"oppf", "pc"}, {"opc", "pf"}, {"opfp", "fc"}, {"oqfq", "qc"}} {
		t.Run(script[0]+" "+script[1], func(t *testing.T) {
			t.Parallel()
			twoCrashes(t, script[0], script[1], 37) // there are too many
		})
	}
}

// twoCrashes strikes with the second crash one of so many disks that the first may leave.
func twoCrashes(t *testing.T, first, second string, of int) {
	n := 0
	eachCut(func() *run { return begin(t, 10000) }, first, func(r *run) {
		everyCrash(r.d, func(c *disk.Disk) {
			if n++; n%of != 0 {
				return
			}
			eachCut(func() *run { return r.behind(c.Copy()) }, second, func(r *run) {
				everyCrash(r.d, func(c *disk.Disk) { r.behind(c).does("o") })
			})
		})
	})
}

func TestP11ManyCrashes(t *testing.T) {
	for seed := range 400 {
		x := random(seed)
		r := begin(t, 100000)
		r.does("o")
		for range 12 {
			script := ""
			for range x.below(14) {
				script += string("pppppqqsstoOfc"[x.below(14)])
			}
			r.d.Cut(x.below(30))
			r.does(script)
			if !r.d.Dead() && x.below(2) == 0 {
				r.does("o")
				continue
			}
			r.d.Crash(x.below(100), []int{x.below(100), x.below(100), x.below(100), x.below(100), x.below(100), x.below(100)})
			r = r.behind(r.d)
		}
	}
}

// The power is cut within an Open, and within the next one, and the next one has all that was durable.
func TestP11CutWithinOpen(t *testing.T) {
	for _, script := range []string{"o", "opp", "opps", "oppspp", "opposppop", "oppf", "opfpc", "oqcqfpp"} {
		begun := func() *run {
			r := begin(t, 10000)
			r.does(script)
			return r
		}
		eachCut(begun, "o", func(r *run) {
			everyCrash(r.d, func(c *disk.Disk) {
				again := func() *run {
					n := r.behind(c.Copy())
					n.d = c.Copy()
					return n
				}
				eachCut(again, "o", func(r *run) {
					everyCrash(r.d, func(c *disk.Disk) { r.behind(c).does("ops") })
				})
			})
		})
	}
}

// What a crash has left out is left out for good: the Puts behind it are not mixed with it, and it does not come back.
func TestP11WhatIsLostIsLost(t *testing.T) {
	r := begin(t, 10000)
	r.does("oppspppp")
	most := 0
	everyCrash(r.d, func(c *disk.Disk) {
		n := r.behind(c)
		lost := r.puts[len(n.puts):]
		most = max(most, len(lost))
		n.does("psoOpo")
		n.does("tsO")
		for _, p := range lost {
			if strings.Contains(n.tells(), "="+strconv.Itoa(p.value)+";") && !slices.Contains(n.puts, p) {
				t.Fatalf("%v is back: %s", p, n.tells())
			}
		}
	})
	if most != 4 {
		t.Errorf("at most %d Puts are lost, of 4 that are not durable", most)
	}
}

func TestP11OtherWindowsAndLaterClocks(t *testing.T) {
	r := begin(t, 10000)
	r.open()
	for i := range 12 {
		r.put(aPut{series: i % 3, time: 5*i - 30, value: i})
		if i == 4 || i == 7 {
			r.does("f")
		}
	}
	r.does("s")
	r.put(aPut{series: 0, time: -30, value: 99})
	everyCrash(r.d, func(c *disk.Disk) {
		for _, window := range []int{1, 2, 5, 20, 1000, 1<<62 - 1, 1 << 62} {
			n := r.other(c.Copy())
			for _, clock := range []int{0, 0, 1, 5, 14, 15, 44, 45, 46} {
				n.clock = clock
				n.s = open(t, n.d, life, window, clock)
				// What is put last is not alive: so it does not matter whether it is there.
				if got, want := n.tells(), made(r.puts, clock); got != want {
					t.Fatalf("Window %d, clock %d: %s, want %s", window, clock, got, want)
				}
				n.window = window
				n.does(string("scf"[clock%3]))
			}
		}
	})
}

// At the ends of the Ints too.
func TestP11EdgesOfTheNumbers(t *testing.T) {
	d := disk.New(100000)
	s := open(t, d, 1<<62, 1, least)
	var want points
	for i, time := range edges {
		put(t, s, i%api.MaxSeries, time, edges[len(edges)-1-i])
		put(t, s, 7, time, time)
		want = append(want, api.Point{Time: time, Value: time})
	}
	if e := s.Sync(); e != api.OK {
		t.Fatalf("Sync = %d", e)
	}
	d.Crash(0, nil)
	for _, window := range edges {
		if window < 1 || window > 1<<62 {
			continue
		}
		for _, order := range []func(*tides.Store) api.Errno{(*tides.Store).Sync, (*tides.Store).Flush, (*tides.Store).Compact} {
			s := open(t, d, 1<<62, window, least)
			has(t, s, 7, least, greatest, want...)
			if e := order(s); e != api.OK {
				t.Fatalf("Window %d: %d", window, e)
			}
			has(t, s, 7, least, greatest, want...)
			d.Crash(0, nil)
		}
	}
	for _, clock := range edges {
		var left points
		for _, p := range want {
			if alive(p.Time, 1<<62, clock) {
				left = append(left, p)
			}
		}
		has(t, open(t, d, 1<<62, 3, clock), 7, least, greatest, left...)
	}
}

func TestP7WhatIsSyncedIsDurable(t *testing.T) {
	for before := range 6 {
		for behind := range 3 {
			r := begin(t, 10000)
			r.does("o" + strings.Repeat("p", before) + "s" + strings.Repeat("p", behind))
			if r.safe != before || len(r.puts) != before+behind {
				t.Fatalf("%d of %d Puts are durable, want %d", r.safe, len(r.puts), before)
			}
			everyCrash(r.d, func(c *disk.Disk) { r.behind(c) })
			r.d.Crash(0, nil)
			r.behind(r.d)
		}
	}
}

// A Sync is of every Put ahead of it: of those of stores that were open earlier too.
func TestP7SyncIsOfEarlierStoresToo(t *testing.T) {
	for _, script := range []string{"oppos", "oppops", "oppopos", "opopopos", "opsopos", "opooos", "opposos", "opfos", "opfpops", "opfpocops"} {
		r := begin(t, 10000)
		r.does(script)
		if r.safe != len(r.puts) {
			t.Fatalf("%s: %d of %d Puts are durable", script, r.safe, len(r.puts))
		}
		everyCrash(r.d, func(c *disk.Disk) { r.behind(c) })
	}
}

// What took effect though the disk failed is durable behind the next store's Sync, and what did not never comes.
func TestP7SyncBehindFailures(t *testing.T) {
	begun := func() *run {
		r := begin(t, 10000)
		r.does("opo")
		return r
	}
	for _, script := range []string{"opp", "opsp", "opspsp", "opoppsp", "ofpp", "opcp"} {
		eachFailure(begun, script, func(r *run) {
			everyCrash(r.d, func(c *disk.Disk) { r.behind(c).does("pso") })
			r.does("os")
			if r.safe != len(r.puts) {
				t.Fatalf("%s: %d of %d Puts are durable", script, r.safe, len(r.puts))
			}
			r.does("p")
			everyCrash(r.d, func(c *disk.Disk) { r.behind(c) })
		})
	}
}

func TestP7SyncOfNothing(t *testing.T) {
	for _, room := range []int{0, 1, 10000} {
		r := begin(t, room)
		r.does("osOsos")
		if r.readOnly {
			t.Errorf("room %d: read-only", room)
		}
		everyCrash(r.d, func(c *disk.Disk) { r.behind(c) })
	}
}

// On a disk that is a copy of another nothing was synced: a Sync makes all of it safe that the store has.
func TestP7SyncOfACopiedDisk(t *testing.T) {
	r := begin(t, 10000)
	r.does("oppsoppfpopspopo")
	for _, script := range []string{"os", "ops", "oposs", "of", "oc", "opf", "oqqc", "ospofs"} {
		n := r.other(disk.New(10000))
		lay(n.d, r.d)
		n.does(script)
		if n.safe != len(n.puts) {
			t.Fatalf("%s: %d of %d Puts are durable", script, n.safe, len(n.puts))
		}
		n.d.Crash(0, nil)
		n.behind(n.d)
	}
}

// P1 to P6 of a store that was opened anew, behind a crash that has torn a Put.
func TestP1ToP6OpenedAnew(t *testing.T) {
	r := begin(t, 10000)
	r.does("oppspp")
	everyCrash(r.d, func(c *disk.Disk) {
		n := r.behind(c)
		calls, before, told := c.Calls(), lies(c), n.tells()
		for _, config := range []api.Config{{Life: 0, Window: 5}, {Life: life, Window: 0}, {Life: 1<<62 + 1, Window: 5}, {Life: life, Window: 1<<62 + 1}} {
			if s, e := tides.Open(c, config, 0); s != nil || e != api.ErrConfig {
				t.Fatalf("P3: Open(%+v) = %v, %d", config, s, e)
			}
		}
		for _, k := range []int{least, -1, api.MaxSeries, greatest} {
			l, e := n.s.Query(k, least, greatest)
			if p := n.s.Put(k, 0, 0); p != api.ErrSeries || e != api.ErrSeries || l != nil {
				t.Fatalf("P4, P5: series %d: Put = %d, Query = %v, %d", k, p, l, e)
			}
		}
		for _, k := range []int{least, -1} {
			if e := n.s.Tick(k); e != api.ErrTime {
				t.Fatalf("P6: Tick(%d) = %d", k, e)
			}
		}
		for k := range api.MaxSeries {
			l, _ := n.s.Query(k, least, greatest)
			l = l[:cap(l)]
			clear(l)
		}
		if n.tells() != told || c.Calls() != calls || lies(c) != before {
			t.Fatalf("P1: what is refused changes something: %s, before it %s", n.tells(), told)
		}
		n.put(aPut{series: 3, time: 0, value: 5})
		n.put(aPut{series: 3, time: 0, value: 6})
		n.tick(life)
		has(t, n.s, 3, least, greatest, api.Point{Time: 0, Value: 6})
		has(t, n.s, 3, 1, greatest)
		n.tick(1)
		has(t, n.s, 3, least, greatest)
	})
}
