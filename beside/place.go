package beside

import (
	"forme/api"
)

// Place is where a float of a size stands, beside those that stand already.
func Place(es []api.Exclusion, room int, y int, side int, clear int, size api.Size) api.Exclusion {
	y = max(y, Below(es, clear))
	for _, e := range es {
		y = max(y, e.Rect.At.Block)
	}
	// Where it does not fit one of es stands, so that there is a next place.
	for !fits(es, room, y, size) {
		y, _ = Next(es, y)
	}
	from, to := Band(es, room, y, size.Block)
	at := api.Size{Inline: from, Block: y}
	if side == api.FloatEnd {
		at.Inline = to - size.Inline
	}
	return api.Exclusion{Rect: api.Rect{At: at, Size: size}, Side: side}
}

// fits tells whether a float of a size fits at y.
func fits(es []api.Exclusion, room int, y int, size api.Size) bool {
	from, to := Band(es, room, y, size.Block)
	return to-from >= size.Inline || !Any(es, y, size.Block)
}
