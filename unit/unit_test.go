package unit_test

import (
	"math"
	"math/big"
	"testing"

	"forme/api"
	"forme/probe"
	"forme/unit"
)

const most = 1 << 30

func TestMay(t *testing.T) {
	for _, c := range []struct {
		x    int
		want bool
	}{{0, true}, {1, true}, {-1, true}, {most, true}, {-most, true}, {most + 1, false}, {-most - 1, false}, {math.MaxInt, false}, {math.MinInt, false}} {
		if got := unit.May(c.x); got != c.want {
			t.Errorf("P1.1: May(%d): %v", c.x, got)
		}
	}
}

func TestAdd(t *testing.T) {
	for _, c := range []struct {
		a, b, want int
		e          api.Errno
	}{
		{2, 3, 5, api.OK},
		{2, -3, -1, api.OK},
		{most, 0, most, api.OK},
		{most - 1, 1, most, api.OK},
		{most, 1, 0, api.ErrUnitOver},
		{-most, -1, 0, api.ErrUnitOver},
		{1 - most, -1, -most, api.OK},
		{most, most, 0, api.ErrUnitOver},
		{-most, most, 0, api.OK},
		{most + 1, -5, 0, api.ErrUnitForm},
		{-5, most + 1, 0, api.ErrUnitForm},
		{most + 1, most, 0, api.ErrUnitForm},
		{math.MinInt, -1, 0, api.ErrUnitForm},
		{1, math.MaxInt, 0, api.ErrUnitForm},
	} {
		if got, e := unit.Add(c.a, c.b); got != c.want || e != c.e {
			t.Errorf("P1.1: Add(%d, %d): %d, %d; want %d, %d", c.a, c.b, got, e, c.want, c.e)
		}
	}
}

func TestMulDiv(t *testing.T) {
	for _, c := range []struct {
		a, b, c, want int
		e             api.Errno
	}{
		{7, 3, 2, 10, api.OK},
		{-7, 3, 2, -11, api.OK},
		{7, -3, 2, -11, api.OK},
		{-7, -3, 2, 10, api.OK},
		{-8, 3, 2, -12, api.OK},
		{-1, 1, most, -1, api.OK},
		{most, most, most, most, api.OK},
		{-most, most, most, -most, api.OK},
		{most, most, most - 1, 0, api.ErrUnitOver},
		{most, 2, 1, 0, api.ErrUnitOver},
		{-most, 2, 1, 0, api.ErrUnitOver},
		{1, 1, 0, 0, api.ErrUnitForm},
		{1, 1, -1, 0, api.ErrUnitForm},
		{most + 1, 0, 1, 0, api.ErrUnitForm},
		{0, -most - 1, 1, 0, api.ErrUnitForm},
		{0, 1, most + 1, 0, api.ErrUnitForm},
		{math.MinInt, -1, 1, 0, api.ErrUnitForm},
	} {
		if got, e := unit.MulDiv(c.a, c.b, c.c); got != c.want || e != c.e {
			t.Errorf("P1.2: MulDiv(%d, %d, %d): %d, %d; want %d, %d", c.a, c.b, c.c, got, e, c.want, c.e)
		}
	}
}

// TestMulDivFloor holds MulDiv against numbers of any size.
func TestMulDivFloor(t *testing.T) {
	r := probe.Rand(1)
	for range 5000 {
		a, b, c := r.Between(-most, most), r.Between(-5000, 5000), r.Between(1, 20000)
		want := new(big.Int).Mul(big.NewInt(int64(a)), big.NewInt(int64(b)))
		want.Div(want, big.NewInt(int64(c)))
		over := want.CmpAbs(big.NewInt(most)) > 0
		got, e := unit.MulDiv(a, b, c)
		switch {
		case over && (got != 0 || e != api.ErrUnitOver):
			t.Fatalf("P1.2: MulDiv(%d, %d, %d): %d, %d; it is over", a, b, c, got, e)
		case !over && (int64(got) != want.Int64() || e != api.OK):
			t.Fatalf("P1.2: MulDiv(%d, %d, %d): %d, %d; want %v", a, b, c, got, e, want)
		}
	}
}

func TestPercent(t *testing.T) {
	for _, c := range []struct {
		p, of, want int
		e           api.Errno
	}{
		{50, 7, 3, api.OK},
		{50, -7, -4, api.OK},
		{-50, 7, -4, api.OK},
		{33, 101, 33, api.OK},
		{-33, 101, -34, api.OK},
		{100, most, most, api.OK},
		{-100, most, -most, api.OK},
		{100, -most, -most, api.OK},
		{0, most, 0, api.OK},
		{101, 1, 0, api.ErrUnitForm},
		{-101, 1, 0, api.ErrUnitForm},
		{1, most + 1, 0, api.ErrUnitForm},
		{1, -most - 1, 0, api.ErrUnitForm},
		{math.MaxInt, math.MaxInt, 0, api.ErrUnitForm},
	} {
		if got, e := unit.Percent(c.p, c.of); got != c.want || e != c.e {
			t.Errorf("P1.2: Percent(%d, %d): %d, %d; want %d, %d", c.p, c.of, got, e, c.want, c.e)
		}
	}
}
