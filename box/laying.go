package box

import (
	"forme/api"
	"forme/intrinsic"
	"forme/node"
	"forme/used"
)

// sheet is a tree that is being laid, and the styles of those of its nodes that
// have been asked for theirs.
type sheet struct {
	nodes  []api.Node
	mode   api.Mode
	styles map[int]api.Style
}

// style is what a node's declarations come to.
func (s *sheet) style(at int) api.Style {
	style, ok := s.styles[at]
	if !ok {
		style = node.Style(s.mode, s.nodes[at])
		s.styles[at] = style
	}
	return style
}

// sizes is how long along the lines what is inside a node is at least, and at
// most.
func (s *sheet) sizes(at int) (int, int) {
	least, most, _ := intrinsic.Sizes(s.nodes, s.mode, at)
	return least, most
}

// lay is Lay, of a length inside that may be beyond Room: margins below 0 and
// paddings make kids longer than the room they are in.
func (s *sheet) lay(at int, inner int) (api.Size, []api.Frag) {
	box := laying{sheet: s, own: s.style(at), inner: inner}
	box.frags = []api.Frag{{Node: at, Line: -1}}
	kids := node.Kids(s.nodes, at)
	if s.nodes[at].Kind == api.KindFlex {
		r := rows{laying: box}
		r.add(kids)
		return r.close(r.y)
	}
	c := column{laying: box}
	for _, kid := range kids {
		c.add(kid)
	}
	return c.close(c.high())
}

// laying is a box that is being laid: its style, how long it is inside, and the
// pieces so far.
type laying struct {
	*sheet
	own   api.Style
	inner int
	frags []api.Frag
}

// take takes pieces that are told from a place inside.
func (l *laying) take(frags []api.Frag, place api.Size) {
	for _, f := range frags {
		f.Rect.At.Inline += place.Inline + l.own.Padding[api.SideInlineStart].V
		f.Rect.At.Block += place.Block + l.own.Padding[api.SideBlockStart].V
		l.frags = append(l.frags, f)
	}
}

// close is the box, laid: so high, if its style does not say how high it is.
func (l *laying) close(high int) (api.Size, []api.Frag) {
	high = used.Length(l.own.Block, 0, high)
	size := api.Size{
		Inline: l.inner + used.Paddings(l.own, api.SideInlineStart, api.SideInlineEnd),
		Block:  high + used.Paddings(l.own, api.SideBlockStart, api.SideBlockEnd),
	}
	l.frags[0].Rect.Size = size
	return size, l.frags
}

// pieces is a piece a line of a text.
func pieces(text int, lines []api.Rect) []api.Frag {
	var frags []api.Frag
	for i, r := range lines {
		frags = append(frags, api.Frag{Node: text, Line: i, Rect: r})
	}
	return frags
}

// behind is where a box stands whose margins begin at a place.
func behind(s api.Style, place api.Size) api.Size {
	return api.Size{
		Inline: place.Inline + used.Margin(s, api.SideInlineStart),
		Block:  place.Block + used.Margin(s, api.SideBlockStart),
	}
}

// outer is a box's size with its margins.
func outer(s api.Style, size api.Size) api.Size {
	return api.Size{
		Inline: size.Inline + used.Margin(s, api.SideInlineStart) + used.Margin(s, api.SideInlineEnd),
		Block:  size.Block + used.Margin(s, api.SideBlockStart) + used.Margin(s, api.SideBlockEnd),
	}
}
