package beside

import (
	"forme/align"
	"forme/api"
	"forme/lines"
)

// Flow is the rectangles of the lines of words, from y on, and where these end.
func Flow(ws []api.Word, how int, es []api.Exclusion, room int, y int) ([]api.Rect, int) {
	var rects []api.Rect
	for next := 0; next < len(ws); {
		from, to := Band(es, room, y, api.LineHeight)
		if ws[next].Advance > to-from && Any(es, y, api.LineHeight) {
			y, _ = Next(es, y)
			continue
		}
		line, _ := lines.Fill(ws, next, to-from)
		next = line.To
		rects = append(rects, rect(line, how, from, to-from, y, next == len(ws)))
		y += api.LineHeight
	}
	return rects, y
}

// rect is a line's rectangle, in a band from a place on, so long.
func rect(line api.Line, how int, from int, long int, y int, last bool) api.Rect {
	offset, _ := align.Offset(how, long, line.Advance)
	size := api.Size{Inline: line.Advance, Block: api.LineHeight}
	if how == api.AlignJustify && line.To-line.From > 1 && !last {
		size.Inline = max(size.Inline, long)
	}
	return api.Rect{At: api.Size{Inline: from + offset, Block: y}, Size: size}
}
