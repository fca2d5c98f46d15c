package band_test

import (
	"math"
	"testing"

	"forme/api"
	"forme/band"
	"forme/probe"
)

const most, room = 1 << 30, 1 << 22

// at is an exclusion: its side, where it begins, how long and how high it is.
func at(side, inline, block, long, high int) api.Exclusion {
	return api.Exclusion{Side: side, Rect: api.Rect{At: api.Size{Inline: inline, Block: block}, Size: api.Size{Inline: long, Block: high}}}
}

func one(e api.Exclusion) []api.Exclusion { return []api.Exclusion{e} }

func many(n int) []api.Exclusion {
	es := make([]api.Exclusion, n)
	for i := range es {
		es[i].Side = api.FloatStart
	}
	return es
}

func TestMay(t *testing.T) {
	for i, es := range [][]api.Exclusion{
		nil,
		many(32),
		one(at(1, most, room, room, room)),
		one(at(2, -most, 0, 0, 0)),
	} {
		for _, x := range []int{0, 1, room} {
			if !band.May(es, x) {
				t.Errorf("P16.1: row %d may be in %d", i, x)
			}
		}
		for _, x := range []int{-1, room + 1, math.MinInt, math.MaxInt} {
			if band.May(es, x) {
				t.Errorf("P16.1: row %d may not be in %d", i, x)
			}
		}
	}
	for i, es := range mayNot() {
		if band.May(es, 100) {
			t.Errorf("P16.1: row %d may not be", i)
		}
	}
}

func mayNot() [][]api.Exclusion {
	all := [][]api.Exclusion{many(33)}
	for _, e := range []api.Exclusion{
		at(0, 0, 0, 1, 1), at(3, 0, 0, 1, 1), at(-1, 0, 0, 1, 1),
		at(1, most+1, 0, 1, 1), at(1, -most-1, 0, 1, 1), at(2, math.MinInt, 0, 1, 1),
		at(1, 0, -1, 1, 1), at(1, 0, room+1, 1, 1), at(2, 0, math.MaxInt, 1, 1),
		at(1, 0, 0, -1, 1), at(1, 0, 0, room+1, 1), at(1, 0, 0, 1, -1), at(1, 0, 0, 1, room+1), at(2, 0, 0, math.MaxInt, math.MaxInt),
	} {
		all = append(all, one(e), []api.Exclusion{at(1, 0, 0, 1, 1), e})
	}
	return all
}

func TestBand(t *testing.T) {
	start, end := at(1, 0, 10, 30, 20), at(2, 80, 10, 20, 20)
	for i, c := range []struct {
		es       []api.Exclusion
		y, h     int
		from, to int
	}{
		{nil, 0, 5, 0, 100},
		{[]api.Exclusion{start, end}, 10, 5, 30, 80},
		// Above it, in it, below it; h is at least 1.
		{[]api.Exclusion{start, end}, 0, 10, 0, 100},
		{[]api.Exclusion{start, end}, 0, 11, 30, 80},
		{[]api.Exclusion{start, end}, 9, 0, 0, 100},
		{[]api.Exclusion{start, end}, 9, 1, 0, 100},
		{[]api.Exclusion{start, end}, 9, 2, 30, 80},
		{[]api.Exclusion{start, end}, 10, 0, 30, 80},
		{[]api.Exclusion{start, end}, 29, 0, 30, 80},
		{[]api.Exclusion{start, end}, 29, 1, 30, 80},
		{[]api.Exclusion{start, end}, 30, 9, 0, 100},
		{[]api.Exclusion{start, end}, room, room, 0, 100},
		// The greatest end, the least beginning.
		{[]api.Exclusion{start, at(1, 5, 15, 40, 10), at(1, 0, 15, 2, 2)}, 15, 5, 45, 100},
		{[]api.Exclusion{end, at(2, 60, 15, 40, 10), at(2, 99, 15, 1, 2)}, 15, 5, 0, 60},
		// From is at least 0; to at most the room, and at least from.
		{one(at(1, -50, 10, 30, 20)), 10, 5, 0, 100},
		{one(at(2, 150, 10, 30, 20)), 10, 5, 0, 100},
		{one(at(2, -20, 10, 30, 20)), 10, 5, 0, 0},
		{[]api.Exclusion{at(1, 0, 10, 60, 20), at(2, 40, 10, 60, 20)}, 10, 5, 60, 60},
		{one(at(1, 0, 10, 130, 20)), 10, 5, 130, 130},
		{one(at(1, most, 10, room, 20)), 10, 5, most + room, most + room},
		// One without height stands where it is between both ends.
		{one(at(1, 0, 12, 30, 0)), 10, 5, 30, 100},
		{one(at(1, 0, 10, 30, 0)), 10, 5, 0, 100},
		{one(at(1, 0, 15, 30, 0)), 10, 5, 0, 100},
	} {
		if from, to, e := band.Band(c.es, 100, c.y, c.h); from != c.from || to != c.to || e != api.OK {
			t.Errorf("P16.1: row %d: %d, %d, %d; want %d, %d", i, from, to, e, c.from, c.to)
		}
	}
}

func TestBandRefuses(t *testing.T) {
	refused := func(es []api.Exclusion, room, y, h int) {
		t.Helper()
		if from, to, e := band.Band(es, room, y, h); from != 0 || to != 0 || e != api.ErrBandForm {
			t.Errorf("P16.1: Band(%v, %d, %d, %d): %d, %d, %d", es, room, y, h, from, to, e)
		}
	}
	for _, es := range mayNot() {
		refused(es, 100, 0, 1)
	}
	for _, x := range []int{-1, room + 1, math.MinInt, math.MaxInt} {
		refused(nil, x, 0, 1)
		refused(nil, 100, x, 1)
		refused(nil, 100, 0, x)
	}
}

func TestBelow(t *testing.T) {
	es := []api.Exclusion{at(1, 0, 10, 5, 20), at(2, 0, 10, 5, 50), at(1, 0, 0, 5, 25), at(2, 0, 0, 5, 10)}
	for clear, want := range []int{0, 30, 60, 60} {
		if got, e := band.Below(es, clear); got != want || e != api.OK {
			t.Errorf("P16.2: Below(%d): %d, %d; want %d", clear, got, e, want)
		}
		if got, e := band.Below(nil, clear); got != 0 || e != api.OK {
			t.Errorf("P16.2: Below(%d) of none: %d, %d", clear, got, e)
		}
	}
	// No other side is cleared.
	for clear := range 4 {
		if got, e := band.Below([]api.Exclusion{at(0, 0, 10, 5, 20), at(3, 0, 10, 5, 20)}, clear); got != 0 || e != api.OK {
			t.Errorf("P16.2: Below(%d): %d, %d", clear, got, e)
		}
	}
	if got, e := band.Below([]api.Exclusion{at(1, 0, room, 5, room)}, api.ClearStart); got != 2*room || e != api.OK {
		t.Errorf("P16.2: %d, %d", got, e)
	}
	for _, clear := range []int{-1, 4, math.MinInt, math.MaxInt} {
		if got, e := band.Below(es, clear); got != 0 || e != api.ErrBandForm {
			t.Errorf("P16.2: Below(%d): %d, %d", clear, got, e)
		}
	}
}

func TestNext(t *testing.T) {
	es := []api.Exclusion{at(1, 0, 10, 5, 20), at(2, 0, 10, 5, 50), at(1, 0, 0, 5, 25), at(2, 7, 7, 5, 0)}
	for _, c := range []struct {
		y, want int
		ok      bool
	}{{-1, 7, true}, {0, 7, true}, {6, 7, true}, {7, 25, true}, {24, 25, true}, {25, 30, true}, {30, 60, true}, {59, 60, true}, {60, 0, false}, {math.MaxInt, 0, false}, {math.MinInt, 7, true}} {
		if got, ok := band.Next(es, c.y); got != c.want || ok != c.ok {
			t.Errorf("P16.2: Next(%d): %d, %v; want %d, %v", c.y, got, ok, c.want, c.ok)
		}
	}
	if got, ok := band.Next(nil, -5); got != 0 || ok {
		t.Errorf("P16.2: of none: %d, %v", got, ok)
	}
	if got, ok := band.Next(one(at(1, 0, 0, 9, 0)), -1); got != 0 || !ok {
		t.Errorf("P16.2: %d, %v", got, ok)
	}
}

// TestWild: nothing panics, whatever it is given.
func TestWild(t *testing.T) {
	r := probe.Rand(16)
	wild := func() int { return r.Of(math.MinInt, math.MaxInt, -1, 0, 1, r.Near(0, room, most)) }
	for range 2000 {
		es := make([]api.Exclusion, r.Next(40))
		for i := range es {
			es[i] = at(r.Between(-1, 4), wild(), wild(), wild(), wild())
		}
		band.May(es, wild())
		band.Band(es, wild(), wild(), wild())
		band.Below(es, wild())
		band.Next(es, wild())
	}
}
