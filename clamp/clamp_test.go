package clamp_test

import (
	"math"
	"testing"

	"forme/api"
	"forme/cascade"
	"forme/clamp"
)

const most, room = 1 << 30, 1 << 22

func TestClamp(t *testing.T) {
	for _, c := range []struct{ x, least, most, want int }{
		{5, 0, 10, 5}, {-5, 0, 10, 0}, {15, 0, 10, 10}, {0, 0, 10, 0}, {10, 0, 10, 10},
		{5, 20, 10, 20}, {15, 20, 10, 20}, {25, 20, 10, 20},
		{-5, -9, -7, -7}, {math.MaxInt, math.MinInt, 3, 3}, {math.MinInt, math.MinInt, 3, math.MinInt},
	} {
		if got := clamp.Clamp(c.x, c.least, c.most); got != c.want {
			t.Errorf("P13.1: Clamp(%d, %d, %d): %d, want %d", c.x, c.least, c.most, got, c.want)
		}
	}
}

func px(v int) api.Length { return api.Length{Kind: api.LengthPx, V: v} }

func percent(v int) api.Length { return api.Length{Kind: api.LengthPercent, V: v} }

func TestInline(t *testing.T) {
	for i, c := range []struct {
		min, max      api.Length
		room, x, want int
	}{
		{px(0), api.Length{}, 100, 50, 50},
		{px(0), api.Length{}, 100, -50, 0},
		{px(0), api.Length{}, 100, most, most},
		{px(0), api.Length{}, 100, -most, 0},
		{px(60), api.Length{}, 100, 50, 60},
		{px(0), px(40), 100, 50, 40},
		{px(60), px(40), 100, 50, 60},
		{px(30), px(40), 100, 35, 35},
		{percent(33), api.Length{}, 101, 5, 33},
		{px(0), percent(33), 101, 50, 33},
		{percent(60), percent(40), 100, 50, 60},
		{percent(100), api.Length{}, room, 1, room},
		{px(0), px(0), 0, 50, 0},
		{px(0), percent(100), 0, 50, 0},
	} {
		s := cascade.New()
		s.Min, s.Max = c.min, c.max
		if got, e := clamp.Inline(s, c.room, c.x); got != c.want || e != api.OK {
			t.Errorf("P13.2: row %d: %d, %d; want %d", i, got, e, c.want)
		}
	}
}

func TestInlineRefuses(t *testing.T) {
	odd := cascade.New()
	odd.Padding[3] = px(-1)
	for i, c := range []struct {
		s       api.Style
		room, x int
	}{
		{api.Style{}, 5, 5},
		{odd, 5, 5},
		{cascade.New(), -1, 5},
		{cascade.New(), room + 1, 5},
		{cascade.New(), math.MinInt, 5},
		{cascade.New(), math.MaxInt, 5},
		{cascade.New(), 5, most + 1},
		{cascade.New(), 5, -most - 1},
		{cascade.New(), 5, math.MaxInt},
	} {
		if got, e := clamp.Inline(c.s, c.room, c.x); got != 0 || e != api.ErrClampForm {
			t.Errorf("P13.2: row %d: %d, %d", i, got, e)
		}
	}
}
