package frag_test

import (
	"math"
	"slices"
	"testing"

	"forme/api"
	"forme/frag"
	"forme/geom"
	"forme/mode"
	"forme/probe"
)

const most = 1 << 30

func of(node, line, inline, block, long, high int) api.Frag {
	return api.Frag{Node: node, Line: line, Rect: api.Rect{At: api.Size{Inline: inline, Block: block}, Size: api.Size{Inline: long, Block: high}}}
}

func odd() [][]api.Frag {
	all := [][]api.Frag{make([]api.Frag, 4097)}
	for _, f := range []api.Frag{
		of(-1, 0, 0, 0, 1, 1), of(32, 0, 0, 0, 1, 1), of(math.MaxInt, 0, 0, 0, 1, 1),
		of(0, -2, 0, 0, 1, 1), of(0, 81, 0, 0, 1, 1), of(0, math.MinInt, 0, 0, 1, 1),
		of(0, 0, most+1, 0, 1, 1), of(0, 0, -most-1, 0, 1, 1), of(0, 0, 0, most+1, 1, 1), of(0, 0, 0, -most-1, 1, 1),
		of(0, 0, 0, 0, -1, 1), of(0, 0, 0, 0, most+1, 1), of(0, 0, 0, 0, 1, -1), of(0, 0, 0, 0, 1, most+1),
	} {
		all = append(all, []api.Frag{f}, []api.Frag{of(0, 0, 0, 0, 0, 0), f})
	}
	return all
}

func TestMay(t *testing.T) {
	for i, fs := range [][]api.Frag{
		nil,
		make([]api.Frag, 4096),
		{of(31, 80, most, most, most, most), of(0, -1, -most, -most, 0, 0)},
	} {
		if !frag.May(fs) {
			t.Errorf("P23.1: row %d may be", i)
		}
		if ps, e := frag.Pieces(api.Mode{Writing: 1, Dir: 1}, api.Size{}, fs); len(ps) != len(fs) || e != api.OK {
			t.Errorf("P23.1: row %d: %d pieces, %d", i, len(ps), e)
		}
	}
	for i, fs := range odd() {
		if frag.May(fs) {
			t.Errorf("P23.1: row %d may not be", i)
		}
	}
}

func TestPieces(t *testing.T) {
	fs := []api.Frag{of(7, -1, 10, 3, 25, 4), of(2, 5, 0, 0, 0, 0)}
	in := api.Size{Inline: 100, Block: 60}
	for i, want := range [][]api.Piece{
		{{Node: 7, Line: -1, Box: api.Box{X: 10, Y: 3, W: 25, H: 4}}, {Node: 2, Line: 5}},
		{{Node: 7, Line: -1, Box: api.Box{X: 65, Y: 3, W: 25, H: 4}}, {Node: 2, Line: 5, Box: api.Box{X: 100}}},
		{{Node: 7, Line: -1, Box: api.Box{X: 53, Y: 10, W: 4, H: 25}}, {Node: 2, Line: 5, Box: api.Box{X: 60}}},
		{{Node: 7, Line: -1, Box: api.Box{X: 53, Y: 65, W: 4, H: 25}}, {Node: 2, Line: 5, Box: api.Box{X: 60, Y: 100}}},
		{{Node: 7, Line: -1, Box: api.Box{X: 3, Y: 10, W: 4, H: 25}}, {Node: 2, Line: 5}},
		{{Node: 7, Line: -1, Box: api.Box{X: 3, Y: 65, W: 4, H: 25}}, {Node: 2, Line: 5, Box: api.Box{Y: 100}}},
	} {
		before := slices.Clone(fs)
		if got, e := frag.Pieces(mode.All()[i], in, fs); !slices.Equal(got, want) || e != api.OK || !slices.Equal(fs, before) {
			t.Errorf("P23.1: %v: %v, %d; want %v", mode.All()[i], got, e, want)
		}
	}
	if got, e := frag.Pieces(api.Mode{}, in, nil); len(got) != 0 || e != api.OK {
		t.Errorf("P23.1: of none: %v, %d", got, e)
	}
}

func TestPiecesRefuses(t *testing.T) {
	refused := func(m api.Mode, in api.Size, fs []api.Frag) {
		t.Helper()
		if got, e := frag.Pieces(m, in, fs); len(got) != 0 || e != api.ErrFragForm {
			t.Errorf("P23.1: %v, %v, %d pieces: %v, %d", m, in, len(fs), got, e)
		}
	}
	for _, fs := range odd() {
		refused(api.Mode{}, api.Size{}, fs)
	}
	for _, fs := range [][]api.Frag{nil, {of(0, 0, 0, 0, 1, 1)}} {
		for _, m := range []api.Mode{{Writing: 3}, {Writing: -1}, {Dir: 2}, {Dir: -1}} {
			refused(m, api.Size{}, fs)
		}
		for _, x := range []int{-1, most + 1, math.MinInt, math.MaxInt} {
			refused(api.Mode{}, api.Size{Inline: x}, fs)
			refused(api.Mode{}, api.Size{Block: x}, fs)
		}
	}
}

// TestEach: of each its layer 3's Physical.
func TestEach(t *testing.T) {
	r := probe.Rand(23)
	for range 200 {
		fs := make([]api.Frag, r.Next(40))
		for i := range fs {
			fs[i] = of(r.Next(32), r.Between(-1, 80), r.Between(-most, most), r.Between(-900, 900), r.Next(900), r.Next(most+1))
		}
		m, in := mode.All()[r.Next(6)], api.Size{Inline: r.Next(900), Block: r.Next(most + 1)}
		ps, e := frag.Pieces(m, in, fs)
		if len(ps) != len(fs) || e != api.OK {
			t.Fatalf("P23.1: %d pieces of %d, %d", len(ps), len(fs), e)
		}
		for i, p := range ps {
			b, _ := geom.Physical(m, in, fs[i].Rect)
			if p != (api.Piece{Node: fs[i].Node, Line: fs[i].Line, Box: b}) {
				t.Fatalf("P23.1: %v of %v", p, fs[i])
			}
		}
	}
}
