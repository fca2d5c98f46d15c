package within_test

import (
	"testing"

	"forme/within"
)

func TestEach(t *testing.T) {
	for i, c := range []struct {
		xs   []int
		want bool
	}{
		{nil, true},
		{[]int{-2, 0, 5}, true},
		{[]int{-3}, false},
		{[]int{6}, false},
		{[]int{0, 0, 6}, false},
		{[]int{-3, 0, 0}, false},
	} {
		if got := within.Each(-2, 5, c.xs...); got != c.want {
			t.Errorf("row %d: %v", i, got)
		}
	}
}
