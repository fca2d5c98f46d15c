package box

import (
	"forme/api"
	"forme/beside"
	"forme/intrinsic"
	"forme/margin"
	"forme/node"
	"forme/used"
)

// column is a box that is being laid, its kids one below the other: where it
// is across the lines, the margin that waits there, and the floats so far.
type column struct {
	laying
	y      int
	waits  int
	floats []api.Exclusion
}

// add lays the next kid.
func (c *column) add(kid int) {
	switch {
	case c.nodes[kid].Kind == api.KindText:
		c.addText(kid)
	case c.nodes[kid].Float != api.FloatNone:
		c.addFloat(kid)
	default:
		c.addBlock(kid)
	}
}

// here is where it is, with the margin that waits.
func (c *column) here() int {
	return max(0, c.y+c.waits)
}

// below is where all floats so far have ended.
func (c *column) below() int {
	return beside.Below(c.floats, api.ClearBoth)
}

// high is how high what is inside is.
func (c *column) high() int {
	return max(c.here(), c.below())
}

// addText lays a text's lines beside the floats so far.
func (c *column) addText(kid int) {
	ws := node.Words(c.nodes[kid])
	if len(ws) == 0 {
		return
	}
	lines, end := beside.Flow(ws, c.own.Align, c.floats, c.inner, c.here())
	c.take(pieces(kid, lines), api.Size{})
	c.y, c.waits = end, 0
}

// addFloat lays a float; where it is stays as it was.
func (c *column) addFloat(kid int) {
	n, s := c.nodes[kid], c.style(kid)
	size, frags := c.lay(kid, c.floatLength(kid))
	size = outer(s, size)
	size = api.Size{Inline: max(0, size.Inline), Block: max(0, size.Block)}
	float := beside.Place(c.floats, c.inner, c.here(), n.Float, n.Clear, size)
	c.floats = append(c.floats, float)
	c.take(frags, behind(s, float.Rect.At))
}

// floatLength is how long a float is inside.
func (c *column) floatLength(kid int) int {
	s := c.style(kid)
	least, most := c.sizes(kid)
	fit := intrinsic.Fit(least, most, c.inner-used.Along(s))
	return used.Inline(s, c.inner, used.Length(s.Inline, c.inner, fit))
}

// addBlock lays a block below what is there, and below all floats so far (what
// its own clear tells is so kept).
func (c *column) addBlock(kid int) {
	s := c.style(kid)
	ahead := margin.Collapse(c.waits, used.Margin(s, api.SideBlockStart))
	y := max(0, c.y+ahead, c.below())
	span := used.Block(s, c.inner)
	size, frags := c.lay(kid, span.Size)
	c.take(frags, api.Size{Inline: span.Start, Block: y})
	c.y, c.waits = y+size.Block, used.Margin(s, api.SideBlockEnd)
}
