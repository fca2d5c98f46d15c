package beside_test

import (
	"slices"
	"testing"

	"forme/api"
	"forme/beside"
)

// far is a room, and a place across the lines, beyond Room.
const far = api.Room + 16382

func TestBeyondRoom(t *testing.T) {
	size := api.Size{Inline: far, Block: 20}
	first := beside.Place(nil, far, far, api.FloatEnd, api.ClearNone, size)
	if want := (api.Exclusion{Rect: api.Rect{At: api.Size{Block: far}, Size: size}, Side: api.FloatEnd}); first != want {
		t.Errorf("Place: %v", first)
	}
	es := []api.Exclusion{first}
	if !beside.Any(es, far+19, 1) || beside.Any(es, far+20, 1) || beside.Any(es, far-5, 5) {
		t.Error("Any")
	}
	if second := beside.Place(es, far, 0, api.FloatStart, api.ClearNone, api.Size{Inline: 1, Block: 1}); second.Rect.At != (api.Size{Block: far + 20}) {
		t.Errorf("Place: %v", second)
	}
	rects, end := beside.Flow([]api.Word{{Advance: 512}}, api.AlignEnd, es, far, far)
	want := api.Rect{At: api.Size{Inline: far - 512, Block: far + 20}, Size: api.Size{Inline: 512, Block: api.LineHeight}}
	if !slices.Equal(rects, []api.Rect{want}) || end != far+20+api.LineHeight {
		t.Errorf("Flow: %v, %d", rects, end)
	}
}
