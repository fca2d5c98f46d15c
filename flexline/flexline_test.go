package flexline_test

import (
	"math"
	"slices"
	"testing"

	"forme/api"
	"forme/flexline"
	"forme/probe"
)

const most, room = 1 << 30, 1 << 22

// of is items of so long bases.
func of(bases ...int) []api.Item {
	var is []api.Item
	for _, b := range bases {
		is = append(is, api.Item{Base: b, Max: most, Grow: 1, Shrink: 1})
	}
	return is
}

func TestMay(t *testing.T) {
	for i, is := range [][]api.Item{
		nil,
		of(0, room),
		{{Base: room, Min: room, Max: most, Grow: 100, Shrink: 100, Extra: room}},
		{{Extra: -room}},
		{{Base: 9, Min: 50, Max: 3}},
		make([]api.Item, 32),
	} {
		if !flexline.May(is) {
			t.Errorf("P19.1: row %d may be", i)
		}
	}
	for i, is := range mayNot() {
		if flexline.May(is) {
			t.Errorf("P19.1: row %d may not be", i)
		}
	}
}

func mayNot() [][]api.Item {
	all := [][]api.Item{make([]api.Item, 33)}
	for _, item := range []api.Item{
		{Base: -1}, {Base: room + 1}, {Base: math.MaxInt}, {Min: -1}, {Min: room + 1}, {Min: math.MinInt}, {Max: -1}, {Max: most + 1},
		{Grow: -1}, {Grow: 101}, {Shrink: -1}, {Shrink: 101}, {Shrink: math.MaxInt}, {Extra: room + 1}, {Extra: -room - 1}, {Extra: math.MinInt},
	} {
		all = append(all, []api.Item{item}, []api.Item{{}, item})
	}
	return all
}

func TestCollect(t *testing.T) {
	clamped := []api.Item{{Base: 90, Max: 40}, {Base: 10, Min: 50, Max: most}, {Base: 5, Max: most, Extra: 6}, {Base: 80, Max: most, Extra: -5}, {Base: 15, Max: most}}
	for i, c := range []struct {
		is   []api.Item
		room int
		wrap bool
		want []int
	}{
		{nil, 100, false, nil},
		{nil, 100, true, nil},
		{of(500, 500, 500), 100, false, []int{3}},
		{of(500, 500, 500), 100, true, []int{1, 1, 1}},
		{of(50, 50, 50), 100, true, []int{2, 1}},
		{of(50, 51, 49), 100, true, []int{1, 2}},
		{of(50, 51, 50), 100, true, []int{1, 1, 1}},
		{of(10, 20, 30, 40, 1), 100, true, []int{4, 1}},
		{of(500, 1, 2), 100, true, []int{1, 2}},
		{of(0, 0, 0), 0, true, []int{3}},
		{of(0, 1, 0), 0, true, []int{1, 1, 1}},
		{clamped, 100, true, []int{2, 2, 1}},
		{clamped, 101, true, []int{3, 2}},
		{clamped, 100, false, []int{5}},
		{[]api.Item{{Base: 90, Min: 70, Max: 40, Extra: 31}, {}}, 100, true, []int{1, 1}},
		{[]api.Item{{Base: 60, Max: most}, {Base: 60, Max: most}, {Extra: -20}}, 100, true, []int{1, 2}},
		{of(slices.Repeat([]int{room}, 32)...), room, true, slices.Repeat([]int{1}, 32)},
	} {
		if got, e := flexline.Collect(c.is, c.room, c.wrap); !slices.Equal(got, c.want) || e != api.OK {
			t.Errorf("P19.2: row %d: %v, %d; want %v", i, got, e, c.want)
		}
	}
}

func TestCollectRefuses(t *testing.T) {
	for _, wrap := range []bool{false, true} {
		for i, is := range mayNot() {
			if got, e := flexline.Collect(is, 100, wrap); len(got) != 0 || e != api.ErrFlexlineForm {
				t.Errorf("P19.2: row %d: %v, %d", i, got, e)
			}
		}
		for _, x := range []int{-1, room + 1, math.MinInt, math.MaxInt} {
			if got, e := flexline.Collect(of(5), x, wrap); len(got) != 0 || e != api.ErrFlexlineForm {
				t.Errorf("P19.2: room %d: %v, %d", x, got, e)
			}
		}
	}
}

// TestLines (T5): each item is in one line, and a line ends where the next item
// does not fit.
func TestLines(t *testing.T) {
	r := probe.Rand(19)
	for range 2000 {
		is := make([]api.Item, r.Next(33))
		for i := range is {
			is[i] = api.Item{Base: r.Next(60), Min: r.Next(20), Max: r.Between(10, 80), Extra: r.Between(-5, 20)}
		}
		before := slices.Clone(is)
		counts, e := flexline.Collect(is, 100, true)
		if e != api.OK || !slices.Equal(is, before) {
			t.Fatalf("P19.2: %d", e)
		}
		next := 0
		for _, n := range counts {
			sum := 0
			for k := range n {
				item := is[next+k]
				sum += max(item.Min, min(item.Base, item.Max)) + item.Extra
				if k > 0 && sum > 100 {
					t.Fatalf("T5: item %d of %v does not fit", next+k, is)
				}
			}
			next += n
			if next == len(is) {
				continue
			}
			item := is[next]
			if n < 1 || sum+max(item.Min, min(item.Base, item.Max))+item.Extra <= 100 {
				t.Fatalf("T5: item %d of %v would fit", next, is)
			}
		}
		if next != len(is) {
			t.Fatalf("T5: %d items of %d", next, len(is))
		}
	}
}
