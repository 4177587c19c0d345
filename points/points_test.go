package points

import (
	"maps"
	"slices"
	"testing"

	"tides/api"
)

const least, greatest = -1 << 63, 1<<63 - 1

func rowOf(times ...int) *Row {
	r := &Row{}
	for i, t := range times {
		r.Put(api.Point{Time: t, Value: i})
	}
	return r
}

func timesOf(l []api.Point) []int {
	var times []int
	for _, p := range l {
		times = append(times, p.Time)
	}
	return times
}

func TestBetween(t *testing.T) {
	r := rowOf(5, least, greatest, -3, 0)
	for _, c := range []struct {
		from, to int
		want     []int
	}{
		{least, greatest, []int{least, -3, 0, 5, greatest}},
		{-3, 5, []int{-3, 0, 5}},
		{-2, 4, []int{0}},
		{1, 4, nil},
		{5, 5, []int{5}},
		{5, 4, nil},
		{greatest, least, nil},
		{least, least, []int{least}},
		{greatest, greatest, []int{greatest}},
		{least + 1, greatest - 1, []int{-3, 0, 5}},
	} {
		if got := timesOf(r.Between(c.from, c.to)); !slices.Equal(got, c.want) {
			t.Errorf("Between(%d, %d) = %v, want %v", c.from, c.to, got, c.want)
		}
	}
	if got := new(Row).Between(least, greatest); len(got) != 0 {
		t.Errorf("an empty row has %v", got)
	}
}

func TestPutAgainstAMap(t *testing.T) {
	r, m := &Row{}, map[int]int{}
	for i, x := 0, uint32(1); i < 2000; i++ {
		x = x*1664525 + 1013904223
		time := int(x>>8%500) - 250
		r.Put(api.Point{Time: time, Value: i})
		m[time] = i
	}
	l := r.Between(least, greatest)
	if !slices.Equal(timesOf(l), slices.Sorted(maps.Keys(m))) {
		t.Fatalf("times: %v", timesOf(l))
	}
	for _, p := range l {
		if m[p.Time] != p.Value {
			t.Errorf("at %d: %d, want %d", p.Time, p.Value, m[p.Time])
		}
	}
}

func TestBetweenGivesNewMemory(t *testing.T) {
	r := rowOf(0, 1, 2, 3, 4)
	l := r.Between(1, 2)
	for len(l) < cap(l) {
		l = append(l, api.Point{Time: 99})
	}
	l[0].Value = 99
	if got := r.Between(least, greatest); !slices.Equal(timesOf(got), []int{0, 1, 2, 3, 4}) || got[1].Value != 1 {
		t.Errorf("the row has %v", got)
	}
}

func TestForget(t *testing.T) {
	for n := range 12 {
		for time := -1; time <= 12; time++ {
			r := &Row{}
			for i := range n {
				r.Put(api.Point{Time: i, Value: i})
			}
			r.Forget(time)
			var want []int
			for i := max(time, 0); i < n; i++ {
				want = append(want, i)
			}
			if got := timesOf(r.Between(time, greatest)); !slices.Equal(got, want) {
				t.Errorf("of %d points, behind Forget(%d): %v", n, time, got)
			}
			if gone := len(r.list) - len(want); gone > len(r.list)/2 {
				t.Errorf("of %d points, Forget(%d) keeps %d that may go", n, time, gone)
			}
		}
	}
}
