package align_test

import (
	"math"
	"slices"
	"testing"

	"forme/align"
	"forme/api"
	"forme/probe"
)

const most = 1 << 30

func TestOffset(t *testing.T) {
	for _, c := range []struct{ align, room, advance, want int }{
		{api.AlignStart, 100, 30, 0},
		{api.AlignEnd, 100, 30, 70},
		{api.AlignCenter, 100, 30, 35},
		{api.AlignCenter, 100, 31, 34},
		{api.AlignJustify, 100, 30, 0},
		{api.AlignEnd, 30, 100, 0},
		{api.AlignCenter, 30, 101, 0},
		{api.AlignCenter, 30, 31, 0},
		{api.AlignEnd, 30, 30, 0},
		{api.AlignEnd, most, 0, most},
		{api.AlignCenter, most, 0, most / 2},
		{api.AlignEnd, 0, most, 0},
	} {
		if got, e := align.Offset(c.align, c.room, c.advance); got != c.want || e != api.OK {
			t.Errorf("P7.1: Offset(%d, %d, %d): %d, %d; want %d", c.align, c.room, c.advance, got, e, c.want)
		}
	}
}

func TestRefused(t *testing.T) {
	for _, c := range []struct{ align, room, advance int }{
		{-1, 10, 5}, {4, 10, 5}, {math.MinInt, 10, 5}, {math.MaxInt, 10, 5},
		{1, -1, 5}, {1, most + 1, 5}, {1, 10, -1}, {1, 10, most + 1}, {3, math.MinInt, math.MaxInt},
	} {
		if got, e := align.Offset(c.align, c.room, c.advance); got != 0 || e != api.ErrAlignForm {
			t.Errorf("P7.1: Offset(%d, %d, %d): %d, %d", c.align, c.room, c.advance, got, e)
		}
		for _, last := range []bool{false, true} {
			if got, e := align.Spread(c.align, c.room, c.advance, 2, last); len(got) != 0 || e != api.ErrAlignForm {
				t.Errorf("P7.2: Spread(%d, %d, %d): %v, %d", c.align, c.room, c.advance, got, e)
			}
		}
	}
	for _, gaps := range []int{-1, 81, math.MinInt, math.MaxInt} {
		for a := range 4 {
			if got, e := align.Spread(a, 10, 5, gaps, false); len(got) != 0 || e != api.ErrAlignForm {
				t.Errorf("P7.2: %d gaps: %v, %d", gaps, got, e)
			}
		}
	}
}

func TestSpread(t *testing.T) {
	for i, c := range []struct {
		align, room, advance, gaps int
		last                       bool
		want                       []int
	}{
		{api.AlignJustify, 100, 90, 3, false, []int{4, 3, 3}},
		{api.AlignJustify, 101, 90, 3, false, []int{4, 4, 3}},
		{api.AlignJustify, 102, 90, 3, false, []int{4, 4, 4}},
		{api.AlignJustify, 91, 90, 3, false, []int{1, 0, 0}},
		{api.AlignJustify, 90, 90, 3, false, []int{0, 0, 0}},
		{api.AlignJustify, 80, 90, 3, false, []int{0, 0, 0}},
		{api.AlignJustify, 100, 90, 3, true, []int{0, 0, 0}},
		{api.AlignStart, 100, 90, 2, false, []int{0, 0}},
		{api.AlignEnd, 100, 90, 2, false, []int{0, 0}},
		{api.AlignCenter, 100, 90, 2, false, []int{0, 0}},
		{api.AlignJustify, 100, 90, 0, false, nil},
		{api.AlignStart, 100, 90, 0, true, nil},
		{api.AlignJustify, most, 0, 1, false, []int{most}},
		{api.AlignEnd, most, 0, 80, false, make([]int, 80)},
	} {
		if got, e := align.Spread(c.align, c.room, c.advance, c.gaps, c.last); !slices.Equal(got, c.want) || e != api.OK {
			t.Errorf("P7.2: row %d: %v, %d; want %v", i, got, e, c.want)
		}
	}
}

// TestSpreadAll: all that is left is shared, and nearly alike.
func TestSpreadAll(t *testing.T) {
	r := probe.Rand(7)
	for range 2000 {
		room, advance, gaps := r.Next(9000), r.Next(9000), r.Between(1, 80)
		got, e := align.Spread(api.AlignJustify, room, advance, gaps, false)
		sum, falls := 0, true
		for i, x := range got {
			sum += x
			falls = falls && (i == 0 || x <= got[i-1])
		}
		if e != api.OK || len(got) != gaps || sum != max(0, room-advance) || !falls || got[0]-got[gaps-1] > 1 {
			t.Fatalf("P7.2: Spread(%d, %d, %d): %v, %d", room, advance, gaps, got, e)
		}
	}
}
