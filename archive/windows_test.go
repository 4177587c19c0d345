package archive

import (
	"math/big"
	"slices"
	"testing"

	"tides/api"
	"tides/files"
)

const least, greatest = -1 << 63, 1<<63 - 1

func TestWindowOf(t *testing.T) {
	times := []int{least, least + 1, least + 2, -1<<62 - 1, -1 << 62, -1<<62 + 1, -11, -10, -9, -6, -5, -4, -1, 0, 1, 4, 5, 6, 9, 10, 1<<62 - 1, 1 << 62, 1<<62 + 1, greatest - 1, greatest}
	for _, time := range times {
		for _, length := range []int{1, 2, 3, 5, 7, 1 << 32, 1<<62 - 1, 1 << 62} {
			want := new(big.Int).Div(big.NewInt(int64(time)), big.NewInt(int64(length))) // (of a length above 0: rounded down)
			if got := windowOf(time, length); !want.IsInt64() || int64(got) != want.Int64() {
				t.Errorf("windowOf(%d, %d) = %d, want %v", time, length, got, want)
			}
		}
	}
}

func at(series, time, value int) files.Put {
	return files.Put{Series: series, Point: api.Point{Time: time, Value: value}}
}

func TestInWindows(t *testing.T) {
	puts := []files.Put{at(1, 7, 1), at(0, -1, 2), at(0, 4, 3), at(1, -5, 4), at(0, 0, 5), at(1, 7, 6), at(0, -6, 7), at(0, 4, 8), at(0, 7, 9), at(1, 7, 10)}
	given := slices.Clone(puts)
	want := [][]files.Put{
		{at(0, -6, 7)},
		{at(0, -1, 2), at(1, -5, 4)},
		{at(0, 0, 5), at(0, 4, 8)},
		{at(0, 7, 9), at(1, 7, 10)},
	}
	if got := inWindows(puts, 5); !slices.EqualFunc(got, want, slices.Equal) {
		t.Errorf("inWindows = %v, want %v", got, want)
	}
	if !slices.Equal(puts, given) {
		t.Error("what was given is changed")
	}
	if got := inWindows(puts, 1<<62); !slices.EqualFunc(got, [][]files.Put{
		{at(0, -6, 7), at(0, -1, 2), at(1, -5, 4)},
		{at(0, 0, 5), at(0, 4, 8), at(0, 7, 9), at(1, 7, 10)},
	}, slices.Equal) {
		t.Errorf("in the widest windows = %v", got)
	}
	if got := inWindows(puts, 1); len(got) != 6 {
		t.Errorf("in windows of 1 = %v", got)
	}
	if got := inWindows(nil, 5); len(got) != 0 {
		t.Errorf("inWindows of nothing = %v", got)
	}
}
