package box

import (
	"forme/api"
	"forme/beside"
	"forme/cross"
	"forme/node"
	"forme/row"
	"forme/used"
	"forme/words"
)

// rows is a box that is being laid, its kids in lines one below the other: where
// it is across these.
type rows struct {
	laying
	y int
}

// standing is an item that is laid, but not yet in its place; stretches tells
// whether it may be made as high as its line.
type standing struct {
	style     api.Style
	size      api.Size
	frags     []api.Frag
	stretches bool
}

// add lays the kids.
func (r *rows) add(kids []int) {
	var items []api.Item
	for _, kid := range kids {
		items = append(items, r.item(kid))
	}
	for _, n := range row.Collect(items, r.inner, r.own.Wrap) {
		r.addLine(kids[:n], items[:n])
		kids, items = kids[n:], items[n:]
	}
}

// item is what a kid asks for along the lines.
func (r *rows) item(kid int) api.Item {
	if n := r.nodes[kid]; n.Kind == api.KindText {
		return api.Item{Base: words.Total(node.Words(n)), Max: api.Most, Shrink: 1}
	}
	s := r.style(kid)
	return api.Item{
		Base:   r.base(kid),
		Min:    used.Length(s.Min, r.inner, 0),
		Max:    used.Length(s.Max, r.inner, api.Most),
		Grow:   s.Grow,
		Shrink: s.Shrink,
		Extra:  used.Along(s),
	}
}

// base is how long a kid is ahead of growing and shrinking.
func (r *rows) base(kid int) int {
	s := r.style(kid)
	basis := s.Basis
	if basis.Kind == api.LengthAuto {
		basis = s.Inline
	}
	least, most := r.sizes(kid)
	return used.Length(basis, r.inner, max(least, most))
}

// addLine lays a line of kids below those that are there.
func (r *rows) addLine(kids []int, items []api.Item) {
	var line []standing
	var longs []int
	high := 0
	for i, long := range row.Resolve(items, r.inner) {
		kid := r.stand(kids[i], long)
		line = append(line, kid)
		longs = append(longs, long+items[i].Extra)
		high = max(high, outer(kid.style, kid.size).Block)
	}
	if !r.own.Wrap {
		high = used.Length(r.own.Block, 0, high)
	}
	for i, place := range row.Places(r.own.Just, r.inner, longs) {
		r.place(line[i], place, high)
	}
	r.y += high
}

// stand lays a kid that is so long inside.
func (r *rows) stand(kid int, long int) standing {
	n, s := r.nodes[kid], r.style(kid)
	if n.Kind == api.KindText {
		lines, end := beside.Flow(node.Words(n), api.AlignStart, nil, long, 0)
		return standing{style: s, size: api.Size{Inline: long, Block: end}, frags: pieces(kid, lines)}
	}
	size, frags := r.lay(kid, long)
	return standing{style: s, size: size, frags: frags, stretches: s.Block.Kind == api.LengthAuto}
}

// place takes an item's pieces into a line so high.
func (r *rows) place(kid standing, along int, high int) {
	how := r.own.Items
	if how == api.ItemStretch && !kid.stretches {
		how = api.ItemStart
	}
	whole := outer(kid.style, kid.size).Block
	across, size, _ := cross.Cross(how, high, whole)
	if how == api.ItemStretch {
		kid.frags[0].Rect.Size.Block = max(0, size-(whole-kid.size.Block))
	}
	r.take(kid.frags, behind(kid.style, api.Size{Inline: along, Block: r.y + across}))
}
