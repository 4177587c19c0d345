package tides_test

import (
	"math"
	"slices"
	"strings"
	"sync"
	"testing"

	"tides/api"
	"tides/disk"
)

// stands holds what is there behind failures to what Query told: behind each crash, behind a later Open, and behind a crash then.
func (r *run) stands() {
	r.Helper()
	crashes := 0
	everyCrash(r.d, func(c *disk.Disk) {
		crashes++
		r.behind(c).does([]string{"opspO", "opfO", "pOco", "opcpfO"}[crashes%4])
	})
	r.does("o")
	r.d.Fail(0, 0)
	for _, script := range []string{"opOps", "pf", "oqpc"} {
		n := r.other(r.d.Copy())
		n.does("o" + script)
		everyCrash(n.d, func(c *disk.Disk) { n.behind(c) })
	}
}

// Each call of the disk that a Put, a Sync, a Flush, a Compact or an Open makes fails in turn, an Append with each part of its bytes.
func TestP10EachCallFails(t *testing.T) {
	for _, script := range slices.Concat(scripts, orderly) {
		t.Run(script, func(t *testing.T) {
			t.Parallel()
			failures := 0
			eachFailure(func() *run { return begin(t, 10000) }, script, func(r *run) {
				failures++
				r.does("t")
				r.stands()
			})
			if strings.Contains(script, "p") && failures < 30 || failures < 2 && script != "o" {
				t.Errorf("%d failures are too few", failures)
			}
		})
	}
}

// What fails once may fail again: in the next store, which finds what the first has left.
func TestP10FailsTwice(t *testing.T) {
	for _, script := range []string{"op", "opsp", "opos", "opop", "opf", "opc", "opfpc", "oqcqf"} {
		t.Run(script, func(t *testing.T) {
			t.Parallel()
			eachFailure(func() *run { return begin(t, 10000) }, script, func(first *run) {
				for _, second := range []string{"opps", "opf", "oc"} {
					eachFailure(func() *run { return first.other(first.d.Copy()) }, second, func(r *run) {
						crashed := r.d.Copy()
						crashed.Crash(0, nil)
						r.behind(crashed).does("psO")
						r.does("ofpc")
						r.keeps()
					})
				}
				eachFailure(func() *run { return first.other(first.d.Copy()) }, "osp", func(r *run) {
					r.does("opso")
					r.d.Crash(0, nil)
					r.behind(r.d)
				})
			})
		})
	}
}

// A disk that has failed is cut then, at each call of the next store.
func TestP10FailsThenIsCut(t *testing.T) {
	for script, second := range map[string]string{"op": "opsp", "ops": "opsp", "opsp": "opsp", "opop": "opsp", "opf": "of", "opc": "oc", "opfpc": "ocs", "oqcqf": "of"} {
		t.Run(script, func(t *testing.T) {
			t.Parallel()
			eachFailure(func() *run { return begin(t, 10000) }, script, func(first *run) {
				eachCut(func() *run { return first.other(first.d.Copy()) }, second, func(r *run) {
					everyCrash(r.d, func(c *disk.Disk) { r.behind(c).does("pso") })
				})
			})
		})
	}
}

// A disk fails behind a crash, which may have torn what lies there.
func TestP10FailsBehindACrash(t *testing.T) {
	for _, script := range [][2]string{{"opspopp", "pops"}, {"opfpp", "pf"}, {"opcpp", "c"}} {
		r := begin(t, 10000)
		r.does(script[0])
		everyCrash(r.d, func(c *disk.Disk) {
			eachFailure(func() *run { return r.behind(c.Copy()) }, script[1], func(r *run) {
				r.does("o")
				r.d.Crash(0, nil)
				r.behind(r.d).does("pocf")
			})
		})
	}
}

// A store that is read-only stays so when the power is cut too, and what its Query told stays.
func TestP10CutWhenReadOnly(t *testing.T) {
	eachFailure(func() *run { return begin(t, 10000) }, "oppsp", func(r *run) {
		if !r.readOnly {
			return
		}
		r.d.Cut(1)
		r.refuses()
		if r.d.Dead() {
			t.Fatal("a store that is read-only makes a call of the disk")
		}
		r.does("o")
		r.does("pps")
		if !r.d.Dead() || !r.readOnly {
			t.Fatal("no power, and the store is not read-only")
		}
		everyCrash(r.d, func(c *disk.Disk) { r.behind(c).does("so") })
	})
}

// Rooms of every size: in each the disk is full at some Put, and behind each part of its bytes.
func TestP10EachRoom(t *testing.T) {
	for again, step := range map[string]int{"p": 1, "pps": 3, "ppo": 3, "pso": 3, "pf": 7, "pc": 7, "qpOf": 7, "psOpfc": 7} {
		t.Run(again, func(t *testing.T) {
			t.Parallel()
			for room := 0; room <= 2*api.Need; room += step {
				r := begin(t, room)
				r.does("o")
				for i := 0; !r.readOnly && r.d.Fulls() == 0; i++ {
					if i > 40 && strings.Contains(again, "c") {
						break // there is room for all points that are alive
					}
					if i > 2*room {
						t.Fatalf("room %d is enough for %d Puts", room, i)
					}
					r.does(again)
				}
				r.does("pts")
				r.stands()
				r.does("opopso")
				if r.d.Used() > room {
					t.Fatalf("room %d: %d bytes", room, r.d.Used())
				}
			}
		})
	}
}

// Where there is room for Need bytes a Put and a Sync are OK, whatever was done ahead of them.
func TestP10NeedIsRoomEnough(t *testing.T) {
	for _, script := range slices.Concat([]string{"opopopopopop", "oppppppppppppppppppppp"}, scripts, orderly) {
		for _, more := range []string{"p", "s", "op", "os", "ops"} {
			r := begin(t, 10000)
			r.does(script)
			if n := 10000 - r.d.Used() - api.Need; more[0] == 'o' {
				d := disk.New(r.d.Used() + api.Need)
				lay(d, r.d)
				r.d, r.room = d, d.Used()+api.Need
			} else {
				r.d.Create("filler")
				r.d.Append("filler", strings.Repeat("x", n))
			}
			if free := r.asked().free; free != api.Need {
				t.Fatalf("%s: %d bytes are free, want Need", script, free)
			}
			r.does(more)
			if r.readOnly || r.d.Fulls() > 0 {
				t.Fatalf("%s, then %s, with Need bytes free: the disk is full", script, more)
			}
		}
	}
}

// A torn end that a failure has left does not make a later Put need more.
func TestP10NeedBehindFailures(t *testing.T) {
	for _, script := range []string{"oppsp", "opfpc"} {
		for _, more := range []string{"op", "os"} {
			eachFailure(func() *run { return begin(t, 10000) }, script, func(r *run) {
				d := disk.New(r.d.Used() + api.Need)
				lay(d, r.d)
				n := r.other(d)
				n.room = d.Used() + api.Need
				n.does(more)
				if n.readOnly {
					t.Fatalf("%s behind a failure, with Need bytes free: the disk is full", more)
				}
			})
		}
	}
}

// Where a disk fails that is full too, the answer is the disk's.
func TestP10FullAndFailing(t *testing.T) {
	for room := 0; room < 100; room += 3 {
		for n := 1; n <= 9; n++ {
			for _, part := range []int{0, 1, 11, 20, 32, math.MaxInt, math.MinInt} {
				r := begin(t, room)
				r.d.Fail(n, part)
				r.does([]string{"oppspopso", "opfpcoc"}[room%2])
				r.stands()
			}
		}
	}
}

// Behind a crash there may be more bytes than there is room for: what was taken away is back.
func TestP10MoreBytesThanRoom(t *testing.T) {
	r := begin(t, 150)
	r.does("opppsops")
	r.d.Remove(r.d.List()[0])
	r.does("ppp")
	over := 0
	everyCrash(r.d, func(c *disk.Disk) {
		used := c.Used()
		if used <= r.room {
			return
		}
		over++
		n := r.behind(c)
		n.does("s")
		if n.readOnly {
			t.Error("a Sync adds bytes")
		}
		for _, script := range []string{"p", "f", "c"} {
			m := n.other(c.Copy())
			m.does("o" + script)
			if !m.readOnly || m.d.Used() != used || m.d.Fulls() == 0 {
				t.Errorf("%s on a disk that is more than full: %d bytes, before it %d", script, m.d.Used(), used)
			}
			m.stands()
		}
	})
	if over == 0 {
		t.Error("no disk is more than full")
	}
}

// In each way that a store becomes read-only it answers the same then, though the disk fails no more.
func TestP10ReadOnly(t *testing.T) {
	for name, breaks := range map[string]func(*run){
		"a Put fails":       func(r *run) { r.d.Fail(1, 7); r.does("p") },
		"a Sync fails":      func(r *run) { r.d.Fail(1, 7); r.does("s") },
		"a Put is full":     func(r *run) { r.does("pppppppppp") },
		"a Put is cut":      func(r *run) { r.d.Cut(1); r.does("p") },
		"a Sync is cut":     func(r *run) { r.d.Cut(2); r.does("s") },
		"a Put goes dead":   func(r *run) { r.d.Cut(1); r.d.SyncDir(); r.s.Put(0, 0, 0); r.readOnly = true },
		"a Flush fails":     func(r *run) { r.d.Fail(2, 7); r.does("f") },
		"a Flush is full":   func(r *run) { r.does("ppppf") },
		"a Flush is cut":    func(r *run) { r.d.Cut(5); r.does("f") },
		"a Compact fails":   func(r *run) { r.does("c"); r.d.Fail(1, 7); r.does("c") },
		"a Compact is full": func(r *run) { r.does("ppppc") },
		"a Compact is cut":  func(r *run) { r.d.Cut(7); r.does("c") },
	} {
		r := begin(t, 150)
		r.does("opps")
		r.tick(1)
		breaks(r)
		if !r.readOnly || !r.s.State().ReadOnly {
			t.Errorf("%s: not read-only", name)
			continue
		}
		r.d.Fail(1, 0)
		r.refuses()
		r.d.Fail(0, 0)
		r.refuses()
		for _, series := range []int{0, 7} {
			l, _ := r.s.Query(series, least, greatest)
			clear(l[:cap(l)])
		}
		r.refuses()
		r.tick(greatest)
		r.clock = greatest
		if r.tells() != "" {
			t.Errorf("%s: behind a Tick all is alive: %s", name, r.tells())
		}
		r.refuses()
	}
}

// What makes no call of the disk does not meet its failure, and a store that was refused is not read-only.
func TestP10QuestionsDoNotFail(t *testing.T) {
	r := begin(t, 10000)
	r.does("opo")
	r.d.Fail(1, 0)
	told := r.tells()
	for _, k := range edges {
		if k < 0 || k >= api.MaxSeries {
			p := r.s.Put(k, k, k)
			if _, q := r.s.Query(k, k, k); p != api.ErrSeries || q != p {
				t.Errorf("of the series %d: Put = %d, Query = %d", k, p, q)
			}
		}
		if e := r.s.Tick(min(k, 0)); k < 0 && e != api.ErrTime || k >= 0 && e != api.OK {
			t.Errorf("Tick(%d) = %d", min(k, 0), e)
		}
	}
	if r.tells() != told || r.d.Refused() != 0 {
		t.Errorf("it tells %s, and told %s", r.tells(), told)
	}
	r.does("p")
	if !r.readOnly {
		t.Error("a Put does not meet the failure")
	}
}

// A power cut in a Put, a Sync, a Flush or a Compact is answered ErrIO, all behind it ErrReadOnly, and Query tells the same from then on.
func TestP10CutEachCall(t *testing.T) {
	for _, script := range []string{"oppssps", "opopps", "opsoss", "opfpc", "oqqcqf", "ofcfc"} {
		eachCut(func() *run { return begin(t, 10000) }, script, func(r *run) {
			if !r.d.Dead() {
				return
			}
			if !r.readOnly {
				t.Fatal("the power is cut, and the store is not read-only")
			}
			told := r.tells()
			r.refuses()
			r.open()
			if r.s == nil {
				return
			}
			if got := r.tells(); got != told {
				t.Fatalf("opened without power: %s, and Query told %s", got, told)
			}
			r.put(aPut{series: 1, time: r.clock, value: 1})
			if !r.readOnly {
				t.Fatal("there is no power, and a Put is OK")
			}
		})
	}
}

// Open of a disk that fails or is full is answered ErrIO or ErrFull, or gives all that there is; and the next Open gives it.
func TestP3OpenOfAFailingDisk(t *testing.T) {
	for _, script := range slices.Concat(scripts, orderly) {
		for _, last := range []string{"p", "f", "c"} {
			for _, torn := range []int{0, 1, 4, 7} { // which call fails of what is done last; 0: none
				begun := func() *run {
					r := begin(t, 10000)
					r.does(script)
					r.d.Fail(torn, 8)
					r.does(last)
					r.d.Fail(0, 0)
					return r
				}
				eachFailure(begun, "o", func(r *run) {
					r.stands()
					r.does("Oo")
				})
			}
		}
	}
}

// Each call of the disk fails in turn: then the Put in which it does is answered so, the store is read-only, and Query tells what took effect.
func TestP10FailingDisk(t *testing.T) {
	for n := 1; n <= 12; n++ {
		for part := range 30 {
			d := disk.New(10000)
			s := open(t, d, 100, 5, 0)
			put(t, s, 0, 0, 0)
			s = open(t, d, 100, 5, 0)
			want := points{{}}
			d.Fail(n, part)
			failed := false
			for i := 1; i <= 8; i++ {
				refused := d.Refused()
				e := s.Put(0, i, i)
				switch {
				case failed && e != api.ErrReadOnly || !failed && (e == api.ErrIO) != (d.Refused() > refused):
					t.Fatalf("call %d failing: Put %d = %d", n, i, e)
				case e == api.OK:
					want = append(want, api.Point{Time: i, Value: i})
				case e != api.ErrIO && e != api.ErrReadOnly:
					t.Fatalf("call %d failing: Put %d = %d", n, i, e)
				}
				failed = failed || e == api.ErrIO
				is(t, s, failed, 0)
			}
			has(t, s, 0, least, greatest, want...)
			d.Fail(0, 0)
			s = open(t, d, 100, 5, 0)
			is(t, s, false, 0)
			has(t, s, 0, least, greatest, want...)
			put(t, s, 0, 99, 99)
			has(t, open(t, d, 100, 5, 0), 0, least, greatest, append(want, api.Point{Time: 99, Value: 99})...)
		}
	}
}

func TestP10FullDisk(t *testing.T) {
	for room := range 3 * api.Need {
		d := disk.New(room)
		s := open(t, d, 100, 5, 0)
		var want points
		for i := 0; ; i++ {
			left := room - d.Used()
			e := s.Put(0, i, i)
			if e == api.ErrFull && d.Fulls() == 1 && left < api.Need {
				break
			}
			if e != api.OK || d.Fulls() > 0 {
				t.Fatalf("room %d, %d left: Put %d = %d", room, left, i, e)
			}
			want = append(want, api.Point{Time: i, Value: i})
		}
		is(t, s, true, 0)
		if e := s.Put(0, 0, 9); e != api.ErrReadOnly || d.Fulls() > 1 {
			t.Fatalf("room %d: Put = %d", room, e)
		}
		has(t, s, 0, least, greatest, want...)
		has(t, open(t, d, 100, 5, 0), 0, least, greatest, want...)
	}
}

// Rooms, failures and cuts as they come, one behind the other.
func TestP10ManyFailures(t *testing.T) {
	for seed := range 600 {
		x := random(seed)
		r := begin(t, x.below(3000))
		r.does("o")
		for range 15 {
			script := ""
			for range x.below(14) {
				script += string("pppqqqsstofcO"[x.below(13)])
			}
			if x.below(3) > 0 {
				r.d.Fail(1+x.below(20), x.below(100))
			}
			if x.below(3) == 0 {
				r.d.Cut(1 + x.below(30))
			}
			r.does(script)
			if !r.d.Dead() && x.below(3) > 0 {
				r.does("o")
				continue
			}
			r.d.Crash(x.below(100), []int{x.below(100), x.below(100), x.below(100), x.below(100), x.below(100), x.below(100)})
			r = r.behind(r.d)
		}
	}
}

// Of many goroutines one alone meets the failure: of the others' Puts those ahead of it are OK, and those behind it are refused.
func TestP10ManyGoroutines(t *testing.T) {
	for n := 1; n <= 400; n += 7 {
		d := disk.New(1 << 20)
		s := open(t, d, 1000, 5, 0)
		d.Fail(n, n)
		var answers [api.MaxSeries][]api.Errno
		var wait sync.WaitGroup
		for k := range api.MaxSeries {
			wait.Go(func() {
				for i := range 30 {
					answers[k] = append(answers[k], s.Put(k, i, k), s.Sync(), s.Flush(), s.Compact())
				}
			})
		}
		wait.Wait()
		is(t, s, true, 0)
		failed := 0
		for k, l := range answers {
			for i, e := range l {
				if e == api.ErrIO {
					failed++
				} else if e == api.OK && i > 0 && l[i-1] != api.OK || e != api.OK && e != api.ErrReadOnly {
					t.Fatalf("call %d failing: behind %v: %d", n, l[:i], e)
				}
			}
			all, _ := s.Query(k, least, greatest)
			has(t, open(t, d, 1000, 5, 0), k, least, greatest, all...)
		}
		if failed != 1 {
			t.Fatalf("call %d failing: %d calls are answered ErrIO", n, failed)
		}
	}
}
