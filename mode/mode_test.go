package mode_test

import (
	"math"
	"slices"
	"testing"

	"forme/api"
	"forme/mode"
)

var six = []api.Mode{{Writing: 0, Dir: 0}, {Writing: 0, Dir: 1}, {Writing: 1, Dir: 0}, {Writing: 1, Dir: 1}, {Writing: 2, Dir: 0}, {Writing: 2, Dir: 1}}

var none = []api.Mode{{Writing: 3}, {Writing: -1}, {Dir: 2}, {Dir: -1}, {Writing: 1, Dir: 2}, {Writing: 3, Dir: 1}, {Writing: math.MinInt, Dir: math.MaxInt}}

func TestMay(t *testing.T) {
	for _, m := range six {
		if !mode.May(m) {
			t.Errorf("P2.1: %v may be", m)
		}
	}
	for _, m := range none {
		if mode.May(m) {
			t.Errorf("P2.1: %v may not be", m)
		}
	}
}

func TestAll(t *testing.T) {
	all := mode.All()
	if !slices.Equal(all, six) {
		t.Errorf("P2.1: %v", all)
	}
	all[0] = api.Mode{Writing: 2, Dir: 1}
	if !slices.Equal(mode.All(), six) {
		t.Error("R4: two answers share memory")
	}
}

func TestVertical(t *testing.T) {
	for i, m := range six {
		if got := mode.Vertical(m); got != (i >= 2) {
			t.Errorf("P2.1: %v: %v", m, got)
		}
	}
	for _, m := range none {
		if mode.Vertical(m) {
			t.Errorf("P2.1: %v may not be", m)
		}
	}
}

func TestEdgeAndSide(t *testing.T) {
	const top, right, bottom, left = 0, 1, 2, 3
	want := [][]int{
		{left, right, top, bottom},
		{right, left, top, bottom},
		{top, bottom, right, left},
		{bottom, top, right, left},
		{top, bottom, left, right},
		{bottom, top, left, right},
	}
	for i, m := range six {
		for side, edge := range want[i] {
			if got, e := mode.Edge(m, side); got != edge || e != api.OK {
				t.Errorf("P2.2: Edge(%v, %d): %d, %d; want %d", m, side, got, e, edge)
			}
			if got, e := mode.Side(m, edge); got != side || e != api.OK {
				t.Errorf("P2.2: Side(%v, %d): %d, %d; want %d", m, edge, got, e, side)
			}
		}
	}
}

func TestNoEdgeNoSide(t *testing.T) {
	refused := func(m api.Mode, x int) {
		if got, e := mode.Edge(m, x); got != 0 || e != api.ErrModeForm {
			t.Errorf("P2.2: Edge(%v, %d): %d, %d", m, x, got, e)
		}
		if got, e := mode.Side(m, x); got != 0 || e != api.ErrModeForm {
			t.Errorf("P2.2: Side(%v, %d): %d, %d", m, x, got, e)
		}
	}
	for _, m := range six {
		for _, x := range []int{-1, 4, math.MinInt, math.MaxInt} {
			refused(m, x)
		}
	}
	for _, m := range none {
		for x := range 4 {
			refused(m, x)
		}
	}
}
