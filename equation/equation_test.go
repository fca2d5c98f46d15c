package equation_test

import (
	"math"
	"slices"
	"testing"

	"forme/api"
	"forme/cascade"
	"forme/equation"
	"forme/probe"
)

const room = 1 << 22

var auto = api.Length{}

func px(v int) api.Length { return api.Length{Kind: api.LengthPx, V: v} }

func percent(v int) api.Length { return api.Length{Kind: api.LengthPercent, V: v} }

// style is one with paddings along the lines of 10 and 5, across them of 3, 4.
func style(inline, start, end api.Length) api.Style {
	s := cascade.New()
	s.Inline, s.Margin = inline, [4]api.Length{start, end, px(77), auto}
	s.Padding = [4]api.Length{px(10), px(5), px(3), px(4)}
	return s
}

func TestEdges(t *testing.T) {
	s := style(auto, auto, auto)
	got, e := equation.Edges(s)
	if !slices.Equal(got, []int{10, 5, 3, 4}) || e != api.OK {
		t.Errorf("P14.1: %v, %d", got, e)
	}
	got[0] = 9
	if again, _ := equation.Edges(s); !slices.Equal(again, []int{10, 5, 3, 4}) {
		t.Error("R4: two answers share memory")
	}
	if got, e := equation.Edges(cascade.New()); !slices.Equal(got, []int{0, 0, 0, 0}) || e != api.OK {
		t.Errorf("P14.1: %v, %d", got, e)
	}
	if got, e := equation.Edges(api.Style{}); len(got) != 0 || e != api.ErrEquationForm {
		t.Errorf("P14.1: %v, %d", got, e)
	}
}

func TestBlock(t *testing.T) {
	for i, c := range []struct {
		inline, start, end api.Length
		room               int
		want               api.Span
	}{
		{auto, px(1), px(2), 100, api.Span{Start: 1, Size: 82, End: 2}},
		{auto, auto, px(2), 100, api.Span{Start: 0, Size: 83, End: 2}},
		{auto, px(1), auto, 100, api.Span{Start: 1, Size: 84, End: 0}},
		{auto, auto, auto, 100, api.Span{Start: 0, Size: 85, End: 0}},
		{auto, px(-1), px(-2), 100, api.Span{Start: -1, Size: 88, End: -2}},
		{auto, px(60), px(60), 100, api.Span{Start: 60, Size: 0, End: 25}},
		{auto, auto, auto, 10, api.Span{Start: 0, Size: 0, End: -5}},
		{auto, auto, px(2), 10, api.Span{Start: -7, Size: 0, End: 2}},
		{px(50), px(1), px(2), 100, api.Span{Start: 1, Size: 50, End: 34}},
		{px(50), px(1), auto, 100, api.Span{Start: 1, Size: 50, End: 34}},
		{px(50), auto, px(2), 100, api.Span{Start: 33, Size: 50, End: 2}},
		{px(50), auto, auto, 100, api.Span{Start: 17, Size: 50, End: 18}},
		{px(49), auto, auto, 100, api.Span{Start: 18, Size: 49, End: 18}},
		{px(90), auto, auto, 100, api.Span{Start: 0, Size: 90, End: -5}},
		{px(91), auto, auto, 100, api.Span{Start: 0, Size: 91, End: -6}},
		{px(90), px(3), auto, 100, api.Span{Start: 3, Size: 90, End: -8}},
		{px(90), auto, px(3), 100, api.Span{Start: -8, Size: 90, End: 3}},
		{px(90), px(3), px(4), 100, api.Span{Start: 3, Size: 90, End: -8}},
		{percent(33), px(0), px(0), 101, api.Span{Start: 0, Size: 33, End: 53}},
		{percent(100), px(0), px(0), 100, api.Span{Start: 0, Size: 100, End: -15}},
		{percent(0), px(0), px(0), 0, api.Span{Start: 0, Size: 0, End: -15}},
		{auto, px(0), px(0), room, api.Span{Start: 0, Size: room - 15, End: 0}},
		{auto, px(-8191), px(-8191), room, api.Span{Start: -8191, Size: room - 15 + 2*8191, End: -8191}},
	} {
		if got, e := equation.Block(style(c.inline, c.start, c.end), c.room); got != c.want || e != api.OK {
			t.Errorf("P14.2: row %d: %v, %d; want %v", i, got, e, c.want)
		}
	}
}

func TestBlockClamped(t *testing.T) {
	s := style(auto, auto, auto)
	s.Max = percent(40)
	if got, e := equation.Block(s, 100); got != (api.Span{Start: 22, Size: 40, End: 23}) || e != api.OK {
		t.Errorf("P14.2: %v, %d", got, e)
	}
	s.Min = px(95)
	if got, e := equation.Block(s, 100); got != (api.Span{Start: 0, Size: 95, End: -10}) || e != api.OK {
		t.Errorf("P14.2: %v, %d", got, e)
	}
	s = style(px(10), px(1), px(2))
	s.Min = percent(20)
	if got, e := equation.Block(s, 100); got != (api.Span{Start: 1, Size: 20, End: 64}) || e != api.OK {
		t.Errorf("P14.2: %v, %d", got, e)
	}
}

func TestBlockRefuses(t *testing.T) {
	odd := cascade.New()
	odd.Margin[3] = percent(5)
	for i, c := range []struct {
		s    api.Style
		room int
	}{{api.Style{}, 5}, {odd, 5}, {cascade.New(), -1}, {cascade.New(), room + 1}, {cascade.New(), math.MinInt}, {cascade.New(), math.MaxInt}} {
		if got, e := equation.Block(c.s, c.room); got != (api.Span{}) || e != api.ErrEquationForm {
			t.Errorf("P14.2: row %d: %v, %d", i, got, e)
		}
	}
}

// TestRoom: the numbers and both paddings are the room.
func TestRoom(t *testing.T) {
	r := probe.Rand(14)
	for range 5000 {
		s := cascade.New()
		some := func(xs ...api.Length) api.Length { return xs[r.Next(len(xs))] }
		s.Inline = some(auto, px(r.Next(8192)), percent(r.Next(101)))
		s.Min = some(px(0), px(r.Next(500)), percent(r.Next(101)))
		s.Max = some(auto, px(r.Next(500)), percent(r.Next(101)))
		for side := range 4 {
			s.Margin[side] = some(auto, px(r.Between(-300, 300)))
			s.Padding[side] = px(r.Next(200))
		}
		room := r.Of(0, room, r.Next(9000))
		got, e := equation.Block(s, room)
		if sum := got.Start + got.Size + got.End + s.Padding[0].V + s.Padding[1].V; sum != room || e != api.OK {
			t.Fatalf("P14.3: room %d, %v: %v, %d", room, s, got, e)
		}
		if got.Size < 0 || s.Margin[0] != auto && got.Start != s.Margin[0].V || s.Margin[0] == auto && s.Margin[1] != auto && got.End != s.Margin[1].V {
			t.Fatalf("P14.2: room %d, %v: %v", room, s, got)
		}
	}
}
