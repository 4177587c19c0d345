// Package points: points in memory.
package points

import (
	"cmp"
	"slices"

	"tides/api"
)

// Row: the points of a series in the order of their times, at most one at each.
type Row struct {
	list []api.Point
}

// find tells where a time is, or would be, and whether there is a point at it.
func (r *Row) find(time int) (int, bool) {
	return slices.BinarySearchFunc(r.list, time, func(p api.Point, t int) int { return cmp.Compare(p.Time, t) })
}

// Put puts a point, in place of one at its time.
func (r *Row) Put(p api.Point) {
	i, found := r.find(p.Time)
	if found {
		r.list[i] = p
		return
	}
	r.list = slices.Insert(r.list, i, p)
}

// Between gives the points from a time to another, both included, in memory of their own.
func (r *Row) Between(from int, to int) []api.Point {
	if from > to {
		return nil
	}
	i, _ := r.find(from)
	j, found := r.find(to)
	if found {
		j++
	}
	return append([]api.Point(nil), r.list[i:j]...)
}

// Forget may let go of the points ahead of a time. It waits till they are more than half of the row: so many small steps of the time do not move the row each.
func (r *Row) Forget(time int) {
	i, _ := r.find(time)
	if i > len(r.list)/2 {
		r.list = append([]api.Point(nil), r.list[i:]...)
	}
}
