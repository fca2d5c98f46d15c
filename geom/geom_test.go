package geom_test

import (
	"math"
	"testing"

	"forme/api"
	"forme/geom"
	"forme/mode"
	"forme/probe"
)

const most = 1 << 30

var wrongModes = []api.Mode{{Writing: 3}, {Writing: -1}, {Dir: 2}, {Dir: -1}}

func size(inline, block int) api.Size {
	return api.Size{Inline: inline, Block: block}
}

func rect(inline, block, long, high int) api.Rect {
	return api.Rect{At: size(inline, block), Size: size(long, high)}
}

func TestLogical(t *testing.T) {
	for i, m := range mode.All() {
		want := size(30, 70)
		if i >= 2 {
			want = size(70, 30)
		}
		if got, e := geom.Logical(m, 30, 70); got != want || e != api.OK {
			t.Errorf("P3.1: %v: %v, %d", m, got, e)
		}
		if _, e := geom.Logical(m, 0, most); e != api.OK {
			t.Errorf("P3.1: %v: %d", m, e)
		}
		if _, e := geom.Logical(m, most, 0); e != api.OK {
			t.Errorf("P3.1: %v: %d", m, e)
		}
		for _, x := range []int{-1, most + 1, math.MinInt, math.MaxInt} {
			if got, e := geom.Logical(m, x, 5); got != size(0, 0) || e != api.ErrGeomForm {
				t.Errorf("P3.1: %v, w %d: %v, %d", m, x, got, e)
			}
			if got, e := geom.Logical(m, 5, x); got != size(0, 0) || e != api.ErrGeomForm {
				t.Errorf("P3.1: %v, h %d: %v, %d", m, x, got, e)
			}
		}
	}
	for _, m := range wrongModes {
		if got, e := geom.Logical(m, 1, 2); got != size(0, 0) || e != api.ErrGeomForm {
			t.Errorf("P3.1: %v: %v, %d", m, got, e)
		}
	}
}

// TestPhysical: a rectangle 10 behind the beginning of the lines and 3 behind
// the first one, 25 long and 4 high, in a size of 100, 60.
func TestPhysical(t *testing.T) {
	want := []api.Box{
		{X: 10, Y: 3, W: 25, H: 4},
		{X: 65, Y: 3, W: 25, H: 4},
		{X: 53, Y: 10, W: 4, H: 25},
		{X: 53, Y: 65, W: 4, H: 25},
		{X: 3, Y: 10, W: 4, H: 25},
		{X: 3, Y: 65, W: 4, H: 25},
	}
	for i, m := range mode.All() {
		in, r := size(100, 60), rect(10, 3, 25, 4)
		if got, e := geom.Physical(m, in, r); got != want[i] || e != api.OK {
			t.Errorf("P3.2: Physical, %v: %v, %d; want %v", m, got, e, want[i])
		}
		if got, e := geom.Back(m, in, want[i]); got != r || e != api.OK {
			t.Errorf("P3.2: Back, %v: %v, %d", m, got, e)
		}
	}
}

func TestPhysicalRefuses(t *testing.T) {
	refused := func(m api.Mode, in api.Size, r api.Rect) {
		if got, e := geom.Physical(m, in, r); got != (api.Box{}) || e != api.ErrGeomForm {
			t.Errorf("P3.2: Physical(%v, %v, %v): %v, %d", m, in, r, got, e)
		}
	}
	ok, in := rect(1, 2, 3, 4), size(9, 9)
	for _, m := range wrongModes {
		refused(m, in, ok)
	}
	for _, m := range mode.All() {
		for _, x := range []int{-1, most + 1, math.MinInt, math.MaxInt} {
			refused(m, size(x, 9), ok)
			refused(m, size(9, x), ok)
			refused(m, in, rect(1, 2, x, 4))
			refused(m, in, rect(1, 2, 3, x))
		}
		for _, x := range []int{-most - 1, most + 1, math.MinInt, math.MaxInt} {
			refused(m, in, rect(x, 2, 3, 4))
			refused(m, in, rect(1, x, 3, 4))
		}
	}
}

func TestBackRefuses(t *testing.T) {
	refused := func(m api.Mode, in api.Size, b api.Box) {
		if got, e := geom.Back(m, in, b); got != (api.Rect{}) || e != api.ErrGeomForm {
			t.Errorf("P3.2: Back(%v, %v, %v): %v, %d", m, in, b, got, e)
		}
	}
	ok, in := api.Box{X: 1, Y: 2, W: 3, H: 4}, size(9, 9)
	for _, m := range wrongModes {
		refused(m, in, ok)
	}
	for _, m := range mode.All() {
		for _, x := range []int{-1, most + 1, math.MinInt, math.MaxInt} {
			refused(m, size(x, 9), ok)
			refused(m, size(9, x), ok)
			refused(m, in, api.Box{X: 1, Y: 2, W: x, H: 4})
			refused(m, in, api.Box{X: 1, Y: 2, W: 3, H: x})
		}
		for _, x := range []int{-4*most - 1, 4*most + 1, math.MinInt, math.MaxInt} {
			refused(m, in, api.Box{X: x, Y: 2, W: 3, H: 4})
			refused(m, in, api.Box{X: 1, Y: x, W: 3, H: 4})
		}
	}
}

// TestFar: what is far beyond a size has its box, and goes back.
func TestFar(t *testing.T) {
	r := probe.Rand(3)
	length := func() int { return r.Of(0, 1, most, r.Between(0, 1000)) }
	place := func(far int) int { return r.Of(0, far, -far, r.Between(-1000, 1000)) }
	for range 2000 {
		m := mode.All()[r.Next(6)]
		in := size(length(), length())
		a := rect(place(most), place(most), length(), length())
		b, e := geom.Physical(m, in, a)
		if e != api.OK {
			t.Fatalf("P3.2: Physical(%v, %v, %v): %d", m, in, a, e)
		}
		if got, e := geom.Back(m, in, b); got != a || e != api.OK {
			t.Fatalf("P3.2: %v, %v: %v is %v, then %v, %d", m, in, a, b, got, e)
		}
		c := api.Box{X: place(4 * most), Y: place(4 * most), W: length(), H: length()}
		if _, e := geom.Back(m, in, c); e != api.OK {
			t.Fatalf("P3.2: Back(%v, %v, %v): %d", m, in, c, e)
		}
	}
}

// TestBackBeyond: what Back answers may stand farther than Physical takes.
func TestBackBeyond(t *testing.T) {
	got, e := geom.Back(api.Mode{Writing: api.ModeVrl, Dir: api.DirRtl}, size(5, 6), api.Box{X: -4 * most, Y: 4 * most, W: 1, H: 2})
	if want := rect(5-4*most-2, 6+4*most-1, 2, 1); got != want || e != api.OK {
		t.Errorf("P3.2: %v, %d; want %v", got, e, want)
	}
}
