package used_test

import (
	"testing"

	"forme/api"
	"forme/cascade"
	"forme/used"
)

// far is a room beyond Room.
const far = api.Room + 16382

func TestBeyondRoom(t *testing.T) {
	s := cascade.New()
	s.Padding[api.SideInlineStart].V = 10
	s.Margin[api.SideInlineEnd] = api.Length{}
	if got := used.Block(s, far); got != (api.Span{Size: far - 10}) {
		t.Errorf("%v", got)
	}
	s.Max = api.Length{Kind: api.LengthPercent, V: 50}
	if got := used.Inline(s, far, far); got != far/2 {
		t.Errorf("%d", got)
	}
}

func TestAround(t *testing.T) {
	s := cascade.New()
	for side := range 4 {
		s.Padding[side].V, s.Margin[side].V = 1<<side, 16<<side
	}
	if got := used.Along(s); got != 1+2+16+32 {
		t.Errorf("Along: %d", got)
	}
	if got := used.Paddings(s, api.SideBlockStart, api.SideBlockEnd); got != 4+8 {
		t.Errorf("Paddings: %d", got)
	}
	if got := used.Margin(s, api.SideBlockEnd); got != 128 {
		t.Errorf("Margin: %d", got)
	}
	s.Margin[api.SideBlockEnd] = api.Length{}
	if got := used.Margin(s, api.SideBlockEnd); got != 0 {
		t.Errorf("Margin: %d", got)
	}
}
