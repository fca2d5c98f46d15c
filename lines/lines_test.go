package lines_test

import (
	"math"
	"slices"
	"testing"

	"forme/api"
	"forme/lines"
	"forme/probe"
)

const most, room = 1 << 30, 1 << 22

func of(advances ...int) []api.Word {
	var ws []api.Word
	for _, a := range advances {
		ws = append(ws, api.Word{Text: "w", Advance: a, Spaces: 3})
	}
	return ws
}

func TestMay(t *testing.T) {
	for i, c := range []struct {
		ws   []api.Word
		want bool
	}{
		{nil, true},
		{of(0, room), true},
		{of(5, -1), false},
		{of(room+1, 5), false},
		{of(math.MinInt), false},
		{of(math.MaxInt), false},
		{make([]api.Word, 80), true},
		{make([]api.Word, 81), false},
		{[]api.Word{{Text: "no matter", Advance: 1, Spaces: -4}}, true},
	} {
		if got := lines.May(c.ws); got != c.want {
			t.Errorf("P6.1: row %d: %v", i, got)
		}
	}
}

func TestFill(t *testing.T) {
	for i, c := range []struct {
		ws         []api.Word
		from, room int
		want       api.Line
	}{
		{of(100), 0, 100, api.Line{From: 0, To: 1, Advance: 100}},
		{of(100), 0, 0, api.Line{From: 0, To: 1, Advance: 100}},
		{of(100, 0), 0, -most, api.Line{From: 0, To: 1, Advance: 100}},
		{of(100, 200), 0, 556, api.Line{From: 0, To: 2, Advance: 556}},
		{of(100, 200), 0, 555, api.Line{From: 0, To: 1, Advance: 100}},
		{of(100, 200, 10), 0, 556, api.Line{From: 0, To: 2, Advance: 556}},
		{of(100, 900, 10), 0, 556, api.Line{From: 0, To: 1, Advance: 100}},
		{of(100, 900, 10), 1, 556, api.Line{From: 1, To: 2, Advance: 900}},
		{of(100, 900, 10), 2, 556, api.Line{From: 2, To: 3, Advance: 10}},
		{of(0, 0, 0), 0, 512, api.Line{From: 0, To: 3, Advance: 512}},
		{of(0, 0, 0), 0, 511, api.Line{From: 0, To: 2, Advance: 256}},
		{of(room, room), 0, most, api.Line{From: 0, To: 2, Advance: 2*room + 256}},
	} {
		if got, e := lines.Fill(c.ws, c.from, c.room); got != c.want || e != api.OK {
			t.Errorf("P6.1: row %d: %v, %d; want %v", i, got, e, c.want)
		}
	}
}

func TestRefused(t *testing.T) {
	for i, c := range []struct {
		ws         []api.Word
		from, room int
		breaks     bool
	}{
		{nil, 0, 10, true},
		{of(1, 2), 2, 10, true},
		{of(1, 2), -1, 10, true},
		{of(1, 2), math.MinInt, 10, true},
		{of(1, 2), math.MaxInt, 10, true},
		{of(1, 2), 0, most + 1, false},
		{of(1, 2), 0, -most - 1, false},
		{of(1, 2), 1, math.MinInt, false},
		{nil, 0, most + 1, false},
		{of(1, -1), 0, 10, false},
		{of(1, room+1), 0, 10, false},
		{make([]api.Word, 81), 0, 10, false},
	} {
		if got, e := lines.Fill(c.ws, c.from, c.room); got != (api.Line{}) || e != api.ErrLinesForm {
			t.Errorf("P6.1: row %d: %v, %d", i, got, e)
		}
		if got, e := lines.Break(c.ws, c.room); !c.breaks && (len(got) != 0 || e != api.ErrLinesForm) || c.breaks && e != api.OK {
			t.Errorf("P6.2: row %d: %v, %d", i, got, e)
		}
	}
}

func TestBreak(t *testing.T) {
	for i, c := range []struct {
		ws   []api.Word
		room int
		want []api.Line
	}{
		{nil, 10, nil},
		{of(5), -most, []api.Line{{From: 0, To: 1, Advance: 5}}},
		{of(100, 100, 100, 100), 712, []api.Line{{From: 0, To: 2, Advance: 456}, {From: 2, To: 4, Advance: 456}}},
		{of(100, 900, 100, 100), 456, []api.Line{{From: 0, To: 1, Advance: 100}, {From: 1, To: 2, Advance: 900}, {From: 2, To: 4, Advance: 456}}},
	} {
		if got, e := lines.Break(c.ws, c.room); !slices.Equal(got, c.want) || e != api.OK {
			t.Errorf("P6.2: row %d: %v, %d; want %v", i, got, e, c.want)
		}
	}
}

// TestBreakAll: each word stands in one line, and no line could take one more.
func TestBreakAll(t *testing.T) {
	r := probe.Rand(6)
	for range 2000 {
		ws := make([]api.Word, r.Next(81))
		for i := range ws {
			ws[i].Advance = r.Of(0, 192, 512, 1024, r.Next(5000))
		}
		room := r.Between(-100, 9000)
		before := slices.Clone(ws)
		all, e := lines.Break(ws, room)
		if e != api.OK || !slices.Equal(ws, before) {
			t.Fatalf("P6.2: %d", e)
		}
		next := 0
		for _, l := range all {
			sum := -256
			for _, w := range ws[l.From:l.To] {
				sum += 256 + w.Advance
			}
			full := l.To == len(ws) || sum+256+ws[l.To].Advance > room
			if l.From != next || l.To <= l.From || l.Advance != sum || sum > room && l.To > l.From+1 || !full {
				t.Fatalf("P6.2: room %d: %v of %v", room, l, ws)
			}
			next = l.To
		}
		if next != len(ws) {
			t.Fatalf("P6.2: %d words of %d", next, len(ws))
		}
	}
}
