package used

import (
	"forme/api"
)

// Margin is a side's margin; LengthAuto is 0.
func Margin(s api.Style, side int) int {
	return Length(s.Margin[side], 0, 0)
}

// Paddings is both of two sides' paddings.
func Paddings(s api.Style, start int, end int) int {
	return s.Padding[start].V + s.Padding[end].V
}

// Along is what stands beside a size along the lines: paddings and margins.
func Along(s api.Style) int {
	return Paddings(s, api.SideInlineStart, api.SideInlineEnd) + Margin(s, api.SideInlineStart) + Margin(s, api.SideInlineEnd)
}

// Block is a block's numbers along the lines.
func Block(s api.Style, room int) api.Span {
	size := Inline(s, room, Length(s.Inline, room, room-Along(s)))
	left := room - size - Along(s)
	span := api.Span{Start: Margin(s, api.SideInlineStart), Size: size, End: Margin(s, api.SideInlineEnd)}
	start, end := auto(s.Margin[api.SideInlineStart]), auto(s.Margin[api.SideInlineEnd])
	switch {
	case start && end:
		span.Start = max(0, left) / 2
		span.End = left - span.Start
	case start:
		span.Start = left
	default:
		span.End += left
	}
	return span
}

// auto tells whether a length is what is left.
func auto(x api.Length) bool {
	return x.Kind == api.LengthAuto
}
