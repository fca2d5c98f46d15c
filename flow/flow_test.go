package flow_test

import (
	"math"
	"slices"
	"testing"

	"forme/api"
	"forme/band"
	"forme/flow"
	"forme/lines"
	"forme/probe"
)

const most, room, high = 1 << 30, 1 << 22, 640

func of(advances ...int) []api.Word {
	var ws []api.Word
	for _, a := range advances {
		ws = append(ws, api.Word{Text: "w", Advance: a, Spaces: 3})
	}
	return ws
}

// at is an exclusion: its side, where it begins, how long and how high it is.
func at(side, inline, block, long, high int) api.Exclusion {
	return api.Exclusion{Side: side, Rect: rect(inline, block, long, high)}
}

func rect(inline, block, long, high int) api.Rect {
	return api.Rect{At: api.Size{Inline: inline, Block: block}, Size: api.Size{Inline: long, Block: high}}
}

// line is a line's rectangle.
func line(inline, block, long int) api.Rect { return rect(inline, block, long, high) }

func TestFlow(t *testing.T) {
	start, end := at(1, 0, 0, 300, 700), at(2, 900, 0, 100, 200)
	both := []api.Exclusion{start, end}
	for i, c := range []struct {
		ws    []api.Word
		align int
		es    []api.Exclusion
		y     int
		want  []api.Rect
		end   int
	}{
		{nil, 0, nil, 7, nil, 7},
		{nil, 3, both, 7, nil, 7},
		{of(400), 0, nil, 7, []api.Rect{line(0, 7, 400)}, 647},
		{of(400, 300), 0, nil, 0, []api.Rect{line(0, 0, 956)}, 640},
		{of(400, 344, 10), 0, nil, 0, []api.Rect{line(0, 0, 1000), line(0, 640, 10)}, 1280},
		{of(400, 344, 10), 1, nil, 0, []api.Rect{line(0, 0, 1000), line(990, 640, 10)}, 1280},
		{of(400, 345, 10), 2, nil, 0, []api.Rect{line(300, 0, 400), line(194, 640, 611)}, 1280},
		// A word that is too long stands all the same, where no float is.
		{of(1400, 5), 0, nil, 0, []api.Rect{line(0, 0, 1400), line(0, 640, 5)}, 1280},
		{of(1400, 5), 1, nil, 0, []api.Rect{line(0, 0, 1400), line(995, 640, 5)}, 1280},
		// Justify: not the last line, not one word.
		{of(300, 300, 200), 3, nil, 0, []api.Rect{line(0, 0, 1000), line(0, 640, 200)}, 1280},
		{of(300, 300), 3, nil, 0, []api.Rect{line(0, 0, 856)}, 640},
		{of(300, 800, 200), 3, nil, 0, []api.Rect{line(0, 0, 300), line(0, 640, 800), line(0, 1280, 200)}, 1920},
		// Beside floats.
		{of(600, 100, 100), 0, both, 0, []api.Rect{line(300, 0, 600), line(300, 640, 456)}, 1280},
		{of(600, 100, 100), 1, both, 0, []api.Rect{line(300, 0, 600), line(544, 640, 456)}, 1280},
		{of(400, 100, 100), 2, both, 0, []api.Rect{line(400, 0, 400), line(422, 640, 456)}, 1280},
		{of(100, 100, 600), 3, both, 0, []api.Rect{line(300, 0, 600), line(300, 640, 600)}, 1280},
		{of(100, 100, 600), 3, both, 61, []api.Rect{line(300, 61, 600), line(0, 701, 600)}, 1341},
		// The first word does not fit: on where one ends.
		{of(601), 0, both, 0, []api.Rect{line(300, 200, 601)}, 840},
		{of(701), 0, both, 0, []api.Rect{line(0, 700, 701)}, 1340},
		{of(1701, 5), 0, both, 0, []api.Rect{line(0, 700, 1701), line(0, 1340, 5)}, 1980},
		{of(600, 650, 720), 0, both, 0, []api.Rect{line(300, 0, 600), line(300, 640, 650), line(0, 1280, 720)}, 1920},
		// A float further down meets a line that is as high as a line.
		{of(800), 0, []api.Exclusion{at(1, 0, 639, 300, 5)}, 0, []api.Rect{line(0, 644, 800)}, 1284},
		{of(800), 0, []api.Exclusion{at(1, 0, 640, 300, 5)}, 0, []api.Rect{line(0, 0, 800)}, 640},
		// However far.
		{of(800), 0, []api.Exclusion{at(1, 0, room, 300, room)}, room, []api.Rect{line(0, 2*room, 800)}, 2*room + 640},
		// No band at all, and words that need none.
		{of(0, 0), 0, []api.Exclusion{at(1, 0, 0, 1000, 9)}, 0, []api.Rect{line(1000, 0, 0), line(0, 640, 0)}, 1280},
	} {
		got, e2, e := flow.Flow(c.ws, c.align, c.es, 1000, c.y)
		if !slices.Equal(got, c.want) || e2 != c.end || e != api.OK {
			t.Errorf("P18.1: row %d: %v, %d, %d; want %v, %d", i, got, e2, e, c.want, c.end)
		}
	}
}

func TestFlowRefuses(t *testing.T) {
	refused := func(ws []api.Word, align int, es []api.Exclusion, room, y int) {
		t.Helper()
		if got, end, e := flow.Flow(ws, align, es, room, y); len(got) != 0 || end != 0 || e != api.ErrFlowForm {
			t.Errorf("P18.1: Flow(%d words, %d, %v, %d, %d): %v, %d, %d", len(ws), align, es, room, y, got, end, e)
		}
	}
	refused(of(-1), 0, nil, 100, 0)
	refused(of(5, room+1), 0, nil, 100, 0)
	refused(make([]api.Word, 81), 0, nil, 100, 0)
	for _, x := range []int{-1, 4, math.MinInt, math.MaxInt} {
		refused(of(5), x, nil, 100, 0)
		refused(nil, x, nil, 100, 0)
	}
	refused(of(5), 0, []api.Exclusion{at(0, 0, 0, 1, 1)}, 100, 0)
	refused(of(5), 0, []api.Exclusion{at(1, most+1, 0, 1, 1)}, 100, 0)
	refused(of(5), 0, make([]api.Exclusion, 33), 100, 0)
	for _, x := range []int{-1, room + 1, math.MinInt, math.MaxInt} {
		refused(of(5), 0, nil, x, 0)
		refused(of(5), 0, nil, 100, x)
	}
}

// TestLines (T3, T4): lines do not meet floats, hold as many words as fit, and
// nothing that is handed in changes.
func TestLines(t *testing.T) {
	r := probe.Rand(18)
	for range 2000 {
		ws := make([]api.Word, r.Next(40))
		for i := range ws {
			ws[i].Advance = r.Of(0, 192, 512, 1024, r.Next(4000))
		}
		es := make([]api.Exclusion, r.Next(8))
		for i := range es {
			side, long := r.Between(1, 2), r.Between(1, 3000)
			es[i] = at(side, (side-1)*(4000-long), r.Next(9000), long, r.Between(1, 3000))
		}
		how, y := r.Next(4), r.Next(3000)
		before, floats := slices.Clone(ws), slices.Clone(es)
		got, end, e := flow.Flow(ws, how, es, 4000, y)
		if e != api.OK || !slices.Equal(ws, before) || !slices.Equal(es, floats) {
			t.Fatalf("P18.1: %d", e)
		}
		next := 0
		for _, x := range got {
			from, to, _ := band.Band(es, 4000, x.At.Block, high)
			fill, _ := lines.Fill(ws, next, to-from)
			next = fill.To
			if x.At.Block < y || x.Size.Block != high || x.Size.Inline < fill.Advance || x.At.Inline < from {
				t.Fatalf("P18.1: %v of %v beside %v", x, ws, es)
			}
			if x.At.Inline+x.Size.Inline > max(to, from+fill.Advance) {
				t.Fatalf("T4: %v meets one of %v", x, es)
			}
			y = x.At.Block + high
		}
		if next != len(ws) || end != y {
			t.Fatalf("P18.1: %d words of %d, %d, %d", next, len(ws), end, y)
		}
	}
}
