package row_test

import (
	"slices"
	"testing"

	"forme/api"
	"forme/row"
)

// far is a room, and a length, beyond Room.
const far = api.Room + 16382

func TestBeyondRoom(t *testing.T) {
	is := []api.Item{{Base: far, Max: api.Most, Shrink: 1, Extra: 9}, {Base: 5, Max: api.Most, Grow: 1}, {Base: far - 5, Max: api.Most}}
	if got := row.Collect(is, far, true); !slices.Equal(got, []int{1, 2}) {
		t.Errorf("Collect: %v", got)
	}
	if got := row.Resolve(is[:1], far); !slices.Equal(got, []int{far - 9}) {
		t.Errorf("Resolve: %v", got)
	}
	if got := row.Resolve(is[1:2], far); !slices.Equal(got, []int{far}) {
		t.Errorf("Resolve: %v", got)
	}
	if got := row.Places(api.JustEnd, far, []int{5, far - 10}); !slices.Equal(got, []int{5, 10}) {
		t.Errorf("Places: %v", got)
	}
}
