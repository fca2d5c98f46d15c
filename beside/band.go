// Package beside tells what room is left beside floats, at places that may be
// farther across the lines, and in rooms that may be longer, than layers 16 to
// 18 take.
package beside

import (
	"slices"

	"forme/api"
)

// Band is the room of what stands at y, h high (at least 1): where along the
// lines it begins and ends.
func Band(es []api.Exclusion, room int, y int, h int) (int, int) {
	from, to := 0, room
	for _, e := range es {
		switch {
		case !meets(e, y, h):
		case e.Side == api.FloatStart:
			from = max(from, e.Rect.At.Inline+e.Rect.Size.Inline)
		case e.Side == api.FloatEnd:
			to = min(to, e.Rect.At.Inline)
		}
	}
	return from, max(from, to)
}

// Any tells whether one of es stands beside what stands at y, h high.
func Any(es []api.Exclusion, y int, h int) bool {
	return slices.ContainsFunc(es, func(e api.Exclusion) bool { return meets(e, y, h) })
}

// Below is where across the lines those that a clear tells of have ended.
func Below(es []api.Exclusion, clear int) int {
	below := 0
	for _, e := range es {
		if clears(clear, e.Side) {
			below = max(below, end(e))
		}
	}
	return below
}

// Next is the first place across the lines behind y at which one of es ends.
func Next(es []api.Exclusion, y int) (int, bool) {
	next, found := 0, false
	for _, e := range es {
		if end(e) > y && (!found || end(e) < next) {
			next, found = end(e), true
		}
	}
	return next, found
}

// end is where across the lines one ends.
func end(e api.Exclusion) int {
	return e.Rect.At.Block + e.Rect.Size.Block
}

// meets tells whether one stands beside what stands at y, h high.
func meets(e api.Exclusion, y int, h int) bool {
	return e.Rect.At.Block < y+max(1, h) && end(e) > y
}

// clears tells whether a clear is of those at a side.
func clears(clear int, side int) bool {
	switch side {
	case api.FloatStart:
		return clear == api.ClearStart || clear == api.ClearBoth
	case api.FloatEnd:
		return clear == api.ClearEnd || clear == api.ClearBoth
	}
	return false
}
