package place_test

import (
	"math"
	"slices"
	"testing"

	"forme/api"
	"forme/place"
	"forme/probe"
)

const most, room = 1 << 30, 1 << 22

// at is an exclusion: its side, where it begins, how long and how high it is.
func at(side, inline, block, long, high int) api.Exclusion {
	return api.Exclusion{Side: side, Rect: api.Rect{At: api.Size{Inline: inline, Block: block}, Size: api.Size{Inline: long, Block: high}}}
}

func size(long, high int) api.Size { return api.Size{Inline: long, Block: high} }

func TestPlace(t *testing.T) {
	start, end := at(1, 0, 10, 30, 20), at(2, 80, 10, 20, 40)
	both := []api.Exclusion{start, end}
	for i, c := range []struct {
		es             []api.Exclusion
		y, side, clear int
		size           api.Size
		want           api.Exclusion
	}{
		{nil, 5, 1, 0, size(40, 10), at(1, 0, 5, 40, 10)},
		{nil, 5, 2, 0, size(40, 10), at(2, 60, 5, 40, 10)},
		{nil, 0, 1, 3, size(0, 0), at(1, 0, 0, 0, 0)},
		{nil, 0, 2, 3, size(0, 0), at(2, 100, 0, 0, 0)},
		// Longer than the room, with nothing there: it stands there.
		{nil, 5, 1, 0, size(140, 10), at(1, 0, 5, 140, 10)},
		{nil, 5, 2, 0, size(140, 10), at(2, -40, 5, 140, 10)},
		{nil, room, 2, 0, size(room, room), at(2, 100-room, room, room, room)},
		// Beside others, from the beginnings of all on.
		{both, 0, 1, 0, size(50, 5), at(1, 30, 10, 50, 5)},
		{both, 0, 2, 0, size(50, 5), at(2, 30, 10, 50, 5)},
		{both, 0, 2, 0, size(40, 5), at(2, 40, 10, 40, 5)},
		{both, 20, 1, 0, size(50, 5), at(1, 30, 20, 50, 5)},
		// It goes on where one ends.
		{both, 0, 1, 0, size(51, 5), at(1, 0, 30, 51, 5)},
		{both, 0, 1, 0, size(80, 5), at(1, 0, 30, 80, 5)},
		{both, 0, 1, 0, size(81, 5), at(1, 0, 50, 81, 5)},
		{both, 0, 2, 0, size(81, 5), at(2, 19, 50, 81, 5)},
		{both, 0, 1, 0, size(180, 5), at(1, 0, 50, 180, 5)},
		{both, 0, 1, 0, size(180, 0), at(1, 0, 50, 180, 0)},
		// As high as it is, at least 1.
		{[]api.Exclusion{at(2, 50, 0, 50, 10), at(2, 20, 10, 80, 10)}, 0, 1, 0, size(30, 9), at(1, 0, 20, 30, 9)},
		{[]api.Exclusion{at(2, 50, 0, 50, 10), at(1, 0, 5, 60, 10)}, 3, 1, 0, size(30, 0), at(1, 60, 10, 30, 0)},
		{[]api.Exclusion{at(1, 0, 5, 60, 10)}, 0, 1, 0, size(60, 0), at(1, 0, 15, 60, 0)},
		// Those that it clears.
		{both, 0, 1, 1, size(10, 5), at(1, 0, 30, 10, 5)},
		{both, 0, 1, 2, size(10, 5), at(1, 0, 50, 10, 5)},
		{both, 0, 1, 3, size(10, 5), at(1, 0, 50, 10, 5)},
		{both, 0, 2, 1, size(10, 5), at(2, 70, 30, 10, 5)},
		{both, 90, 2, 3, size(10, 5), at(2, 90, 90, 10, 5)},
		// However far.
		{[]api.Exclusion{at(1, 0, room, 60, room)}, 0, 2, 0, size(50, 5), at(2, 50, 2*room, 50, 5)},
		{[]api.Exclusion{at(1, 0, room, 60, room), at(1, most, room, 1, room-1)}, 0, 1, 0, size(40, room), at(1, 60, 2*room-1, 40, room)},
		// One that stands beyond the room.
		{[]api.Exclusion{at(1, 0, 0, 130, 20)}, 0, 2, 0, size(0, 5), at(2, 130, 0, 0, 5)},
	} {
		if got, e := place.Place(c.es, 100, c.y, c.side, c.clear, c.size); got != c.want || e != api.OK {
			t.Errorf("P17.1: row %d: %v, %d; want %v", i, got, e, c.want)
		}
	}
}

func TestPlaceRefuses(t *testing.T) {
	refused := func(es []api.Exclusion, room, y, side, clear int, size api.Size) {
		t.Helper()
		if got, e := place.Place(es, room, y, side, clear, size); got != (api.Exclusion{}) || e != api.ErrPlaceForm {
			t.Errorf("P17.1: Place(%v, %d, %d, %d, %d, %v): %v, %d", es, room, y, side, clear, size, got, e)
		}
	}
	refused([]api.Exclusion{at(0, 0, 0, 1, 1)}, 100, 0, 1, 0, size(1, 1))
	refused([]api.Exclusion{at(1, 0, -1, 1, 1)}, 100, 0, 1, 0, size(1, 1))
	refused(make([]api.Exclusion, 33), 100, 0, 1, 0, size(1, 1))
	for _, x := range []int{-1, room + 1, math.MinInt, math.MaxInt} {
		refused(nil, x, 0, 1, 0, size(1, 1))
		refused(nil, 100, x, 1, 0, size(1, 1))
		refused(nil, 100, 0, 1, 0, size(x, 1))
		refused(nil, 100, 0, 1, 0, size(1, x))
	}
	for _, x := range []int{-1, 0, 3, math.MinInt, math.MaxInt} {
		refused(nil, 100, 0, x, 0, size(1, 1))
	}
	for _, x := range []int{-1, 4, math.MinInt, math.MaxInt} {
		refused(nil, 100, 0, 1, x, size(1, 1))
	}
}

// TestFloats (T4): floats do not overlap, nor stand above earlier ones, nor
// above what they clear.
func TestFloats(t *testing.T) {
	r := probe.Rand(17)
	for range 500 {
		var es []api.Exclusion
		y := 0
		for range 32 {
			y += r.Of(0, 0, r.Next(30))
			clear := r.Of(0, 0, 0, r.Next(4))
			s := size(r.Of(r.Between(1, 60), r.Between(1, 140)), r.Between(1, 40))
			before := slices.Clone(es)
			got, e := place.Place(es, 100, y, r.Between(1, 2), clear, s)
			if e != api.OK || got.Rect.Size != s || got.Rect.At.Block < y || !slices.Equal(es, before) {
				t.Fatalf("P17.1: %v, %d", got, e)
			}
			for _, x := range es {
				apart := x.Rect.At.Block+x.Rect.Size.Block <= got.Rect.At.Block ||
					x.Rect.At.Inline+x.Rect.Size.Inline <= got.Rect.At.Inline ||
					got.Rect.At.Inline+s.Inline <= x.Rect.At.Inline
				cleared := clear&x.Side == 0 || x.Rect.At.Block+x.Rect.Size.Block <= got.Rect.At.Block
				if !apart || !cleared || got.Rect.At.Block < x.Rect.At.Block {
					t.Fatalf("T4: %v, clear %d, beside %v", got, clear, es)
				}
			}
			es = append(es, got)
		}
	}
}
