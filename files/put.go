package files

import (
	"cmp"

	"tides/api"
)

// Put: a point as it was put.
type Put struct {
	Series int
	api.Point
}

const putSize = 1 + 2*intSize

// Compare holds the places of points against each other: their series, then their times.
func (p Put) Compare(q Put) int {
	return cmp.Or(cmp.Compare(p.Series, q.Series), cmp.Compare(p.Time, q.Time))
}

func putBytes(p Put) string {
	return string([]byte{byte(p.Series)}) + intBytes(p.Time) + intBytes(p.Value)
}

// putOf tells also whether there is such a series.
func putOf(data string) (Put, bool) {
	p := Put{Series: int(data[0]), Point: api.Point{Time: intOf(data[1:]), Value: intOf(data[1+intSize:])}}
	return p, p.Series < api.MaxSeries
}
