package cross_test

import (
	"math"
	"slices"
	"testing"

	"forme/api"
	"forme/cross"
)

const most, room = 1 << 30, 1 << 22

func TestMainPlaces(t *testing.T) {
	for i, c := range []struct {
		just, room  int
		sizes, want []int
	}{
		{api.JustStart, 100, nil, nil},
		{api.JustBetween, 100, nil, nil},
		{api.JustStart, 100, []int{10, 20, 5}, []int{0, 10, 30}},
		{api.JustEnd, 100, []int{10, 20, 5}, []int{65, 75, 95}},
		{api.JustCenter, 100, []int{10, 20, 5}, []int{32, 42, 62}},
		{api.JustBetween, 100, []int{10, 20, 5}, []int{0, 42, 95}},
		{api.JustBetween, 100, []int{0, 0, 0, 0}, []int{0, 33, 66, 100}},
		{api.JustBetween, 10, []int{1, 1, 1, 1}, []int{0, 3, 6, 9}},
		{api.JustBetween, 11, []int{1, 1, 1, 1}, []int{0, 3, 6, 10}},
		{api.JustBetween, 100, []int{10, 20}, []int{0, 80}},
		{api.JustBetween, 100, []int{10}, []int{0}},
		{api.JustEnd, 100, []int{10}, []int{90}},
		{api.JustCenter, 100, []int{11}, []int{44}},
		// Nothing is left.
		{api.JustEnd, 100, []int{60, 60}, []int{0, 60}},
		{api.JustCenter, 100, []int{60, 61}, []int{0, 60}},
		{api.JustBetween, 100, []int{60, 61}, []int{0, 60}},
		{api.JustEnd, 100, []int{60, 40}, []int{0, 60}},
		// Sizes below 0.
		{api.JustStart, 100, []int{10, -20, 5}, []int{0, 10, -10}},
		{api.JustEnd, 100, []int{10, -20, 5}, []int{105, 115, 95}},
		{api.JustBetween, 100, []int{10, -20, 5}, []int{0, 62, 95}},
		{api.JustEnd, room, []int{-room, room}, []int{room, 0}},
		{api.JustBetween, room, slices.Repeat([]int{0}, 32), between(room, 32)},
	} {
		if got, e := cross.Main(c.just, c.room, c.sizes); !slices.Equal(got, c.want) || e != api.OK {
			t.Errorf("P21.1: row %d: %v, %d; want %v", i, got, e, c.want)
		}
	}
}

// between is where n items without size begin, in a room, with space between.
func between(room int, n int) []int {
	var all []int
	for i := range n {
		all = append(all, room*i/(n-1))
	}
	return all
}

func TestMainRefuses(t *testing.T) {
	refused := func(just, room int, sizes []int) {
		t.Helper()
		if got, e := cross.Main(just, room, sizes); len(got) != 0 || e != api.ErrCrossForm {
			t.Errorf("P21.1: Main(%d, %d, %v): %v, %d", just, room, sizes, got, e)
		}
	}
	for _, x := range []int{-1, 4, math.MinInt, math.MaxInt} {
		refused(x, 100, []int{1})
		refused(x, 100, nil)
	}
	for _, x := range []int{-1, room + 1, math.MinInt, math.MaxInt} {
		refused(0, x, []int{1})
	}
	for _, x := range []int{-room - 1, room + 1, math.MinInt, math.MaxInt} {
		refused(0, 100, []int{1, x})
	}
	refused(0, 100, make([]int, 33))
}

func TestCross(t *testing.T) {
	for i, c := range []struct{ item, line, size, at, high int }{
		{api.ItemStretch, 100, 30, 0, 100},
		{api.ItemStretch, 30, 100, 0, 30},
		{api.ItemStretch, -5, 3, 0, -5},
		{api.ItemStart, 100, 30, 0, 30},
		{api.ItemEnd, 100, 30, 70, 30},
		{api.ItemEnd, 30, 100, -70, 100},
		{api.ItemCenter, 100, 30, 35, 30},
		{api.ItemCenter, 100, 31, 34, 31},
		{api.ItemCenter, 30, 101, -36, 101},
		{api.ItemCenter, 30, 31, -1, 31},
		{api.ItemEnd, most, -most, 2 * most, -most},
		{api.ItemCenter, -most, most, -most, most},
	} {
		if at, high, e := cross.Cross(c.item, c.line, c.size); at != c.at || high != c.high || e != api.OK {
			t.Errorf("P21.2: row %d: %d, %d, %d; want %d, %d", i, at, high, e, c.at, c.high)
		}
	}
}

func TestCrossRefuses(t *testing.T) {
	refused := func(item, line, size int) {
		t.Helper()
		if at, high, e := cross.Cross(item, line, size); at != 0 || high != 0 || e != api.ErrCrossForm {
			t.Errorf("P21.2: Cross(%d, %d, %d): %d, %d, %d", item, line, size, at, high, e)
		}
	}
	for _, x := range []int{-1, 4, math.MinInt, math.MaxInt} {
		refused(x, 100, 1)
	}
	for item := range 4 {
		for _, x := range []int{-most - 1, most + 1, math.MinInt, math.MaxInt} {
			refused(item, x, 1)
			refused(item, 100, x)
		}
	}
}
