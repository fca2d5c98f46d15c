package margin_test

import (
	"math"
	"slices"
	"testing"

	"forme/api"
	"forme/margin"
	"forme/probe"
)

const most = 1 << 30

func TestCollapse(t *testing.T) {
	for _, c := range []struct{ a, b, want int }{
		{0, 0, 0}, {5, 3, 5}, {3, 5, 5}, {5, 0, 5}, {0, 5, 5},
		{-5, -3, -5}, {-3, -5, -5}, {-5, 0, -5}, {0, -5, -5},
		{5, -3, 2}, {-3, 5, 2}, {3, -5, -2}, {-5, 3, -2},
		{most, most, most}, {-most, -most, -most}, {most, -most, 0},
		{most + 1, 5, 5}, {5, most + 1, 5}, {-most - 1, 5, 5}, {5, -most - 1, 5},
		{most + 1, -5, -5}, {-5, most + 1, -5}, {-most - 1, -5, -5}, {-5, -most - 1, -5}, {-most - 1, -3, -3},
		{most + 1, most, most}, {-most, -most - 1, -most}, {most + 1, 0, 0}, {0, -most - 1, 0},
		{math.MaxInt, 1, 1}, {-1, math.MinInt, -1}, {math.MinInt, math.MaxInt, 0}, {math.MaxInt, math.MaxInt, 0}, {most + 1, -most - 1, 0},
	} {
		if got := margin.Collapse(c.a, c.b); got != c.want {
			t.Errorf("P12.1: Collapse(%d, %d): %d, want %d", c.a, c.b, got, c.want)
		}
	}
}

// TestCollapseBeyond: a margin that may not be counts as 0, ahead of the other
// one and behind it; All refuses it.
func TestCollapseBeyond(t *testing.T) {
	beyond := []int{most + 1, -most - 1, 1 << 40, -1 << 40, math.MaxInt, math.MinInt}
	may := []int{most, most - 1, 7, 1, 0, -1, -7, 1 - most, -most}
	for _, odd := range beyond {
		for _, x := range may {
			if a, b := margin.Collapse(odd, x), margin.Collapse(x, odd); a != x || b != x {
				t.Errorf("P12.1: %d, %d: %d, %d", odd, x, a, b)
			}
			if got, e := margin.All([]int{x, odd}); got != 0 || e != api.ErrMarginForm {
				t.Errorf("P12.2: %d, %d: %d, %d", x, odd, got, e)
			}
		}
		for _, other := range beyond {
			if got := margin.Collapse(odd, other); got != 0 {
				t.Errorf("P12.1: %d, %d: %d, want 0", odd, other, got)
			}
		}
	}
}

func TestAll(t *testing.T) {
	for i, c := range []struct {
		xs   []int
		want int
		e    api.Errno
	}{
		{nil, 0, api.OK},
		{[]int{}, 0, api.OK},
		{[]int{0}, 0, api.OK},
		{[]int{7}, 7, api.OK},
		{[]int{-7}, -7, api.OK},
		{[]int{3, 9, 5}, 9, api.OK},
		{[]int{-3, -9, -5}, -9, api.OK},
		{[]int{3, -9, 5, -2, 0}, -4, api.OK},
		{[]int{most, -most, 0}, 0, api.OK},
		{slices.Repeat([]int{most}, 32), most, api.OK},
		{make([]int, 33), 0, api.ErrMarginForm},
		{[]int{1, most + 1}, 0, api.ErrMarginForm},
		{[]int{-most - 1, 1}, 0, api.ErrMarginForm},
		{[]int{math.MinInt}, 0, api.ErrMarginForm},
	} {
		if got, e := margin.All(c.xs); got != c.want || e != c.e {
			t.Errorf("P12.2: row %d: %d, %d; want %d, %d", i, got, e, c.want, c.e)
		}
	}
}

// TestAlike: of two, All is Collapse; in whichever row many meet.
func TestAlike(t *testing.T) {
	r := probe.Rand(12)
	for range 1000 {
		xs := make([]int, r.Between(2, 32))
		for i := range xs {
			xs[i] = r.Between(-20, 20)
		}
		two, _ := margin.All(xs[:2])
		if got := margin.Collapse(xs[0], xs[1]); got != two {
			t.Fatalf("P12.2: %v: %d, %d", xs[:2], got, two)
		}
		before := slices.Clone(xs)
		all, e := margin.All(xs)
		if !slices.Equal(xs, before) {
			t.Fatal("R4: All changes what is handed in")
		}
		slices.Sort(xs)
		sorted, _ := margin.All(xs)
		if want := max(0, xs[len(xs)-1]) + min(0, xs[0]); all != want || sorted != want || e != api.OK {
			t.Fatalf("P12.2: %v: %d, %d", xs, all, sorted)
		}
	}
}
