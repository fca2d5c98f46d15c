package box_test

import (
	"slices"
	"sync"
	"testing"

	"forme/api"
	"forme/band"
	"forme/box"
	"forme/cascade"
	"forme/clamp"
	"forme/cross"
	"forme/equation"
	"forme/flexible"
	"forme/flexline"
	"forme/flow"
	"forme/intrinsic"
	"forme/length"
	"forme/margin"
	"forme/mode"
	"forme/place"
	"forme/probe"
	"forme/tree"
	"forme/words"
)

// slow is the chapter's words, told once more with the calls of the layers.
type slow struct {
	t  *testing.T
	ns []api.Node
	m  api.Mode
}

func (s slow) ok(errnos ...api.Errno) {
	s.t.Helper()
	for _, e := range errnos {
		if e != api.OK {
			s.t.Fatalf("a layer refuses: %d; %v", e, s.ns)
		}
	}
}

func (s slow) style(at int) api.Style {
	style, e := cascade.Apply(s.m, s.ns[at].Decls)
	s.ok(e)
	return style
}

func (s slow) used(x api.Length, of, auto int) int {
	n, e := length.Used(x, of, auto)
	s.ok(e)
	return n
}

func (s slow) margins(style api.Style) [4]int {
	var ms [4]int
	for side, x := range style.Margin {
		ms[side] = s.used(x, 0, 0)
	}
	return ms
}

func (s slow) words(at int) []api.Word {
	ws, e := words.Split(s.ns[at].Text)
	s.ok(e)
	return ws
}

func moved(frags []api.Frag, inline, block int) []api.Frag {
	all := slices.Clone(frags)
	for i := range all {
		all[i].Rect.At.Inline += inline
		all[i].Rect.At.Block += block
	}
	return all
}

func lines(text int, rects []api.Rect) []api.Frag {
	var all []api.Frag
	for i, r := range rects {
		all = append(all, api.Frag{Node: text, Line: i, Rect: r})
	}
	return all
}

func (s slow) lay(at, inner int) (api.Size, []api.Frag) {
	style := s.style(at)
	pads, e := equation.Edges(style)
	kids, e2 := tree.Kids(s.ns, at)
	s.ok(e, e2)
	var inside []api.Frag
	var high int
	if s.ns[at].Kind == api.KindFlex {
		inside, high = s.flex(kids, style, inner)
	} else {
		inside, high = s.block(kids, style, inner)
	}
	if style.Block.Kind == api.LengthPx {
		high = style.Block.V
	}
	size := api.Size{Inline: inner + pads[0] + pads[1], Block: high + pads[2] + pads[3]}
	own := api.Frag{Node: at, Line: -1, Rect: api.Rect{Size: size}}
	return size, append([]api.Frag{own}, moved(inside, pads[0], pads[2])...)
}

func (s slow) block(kids []int, style api.Style, inner int) ([]api.Frag, int) {
	var all []api.Frag
	var floats []api.Exclusion
	y, waits := 0, 0
	below := func() int {
		b, e := band.Below(floats, api.ClearBoth)
		s.ok(e)
		return b
	}
	for _, kid := range kids {
		n, own := s.ns[kid], s.style(kid)
		ms := s.margins(own)
		switch {
		case n.Kind == api.KindText:
			ws := s.words(kid)
			if len(ws) == 0 {
				continue
			}
			y, waits = max(0, y+waits), 0
			rects, end, e := flow.Flow(ws, style.Align, floats, inner, y)
			s.ok(e)
			all, y = append(all, lines(kid, rects)...), end
		case n.Float != api.FloatNone:
			x := s.used(own.Inline, inner, 0)
			if own.Inline.Kind == api.LengthAuto {
				least, most, e := intrinsic.Sizes(s.ns, s.m, kid)
				s.ok(e)
				x = intrinsic.Fit(least, most, inner-own.Padding[0].V-own.Padding[1].V-ms[0]-ms[1])
			}
			x, e := clamp.Inline(own, inner, x)
			s.ok(e)
			size, frags := s.lay(kid, x)
			size = api.Size{Inline: max(0, size.Inline+ms[0]+ms[1]), Block: max(0, size.Block+ms[2]+ms[3])}
			ex, e := place.Place(floats, inner, max(0, y+waits), n.Float, n.Clear, size)
			s.ok(e)
			floats = append(floats, ex)
			all = append(all, moved(frags, ex.Rect.At.Inline+ms[0], ex.Rect.At.Block+ms[2])...)
		default:
			y = max(0, y+margin.Collapse(waits, ms[2]))
			y = max(y, below())
			span, e := equation.Block(own, inner)
			s.ok(e)
			size, frags := s.lay(kid, span.Size)
			all = append(all, moved(frags, span.Start, y)...)
			y, waits = y+size.Block, ms[3]
		}
	}
	return all, max(0, y+waits, below())
}

func (s slow) flex(kids []int, style api.Style, inner int) ([]api.Frag, int) {
	var items []api.Item
	for _, kid := range kids {
		if s.ns[kid].Kind == api.KindText {
			items = append(items, api.Item{Base: words.Total(s.words(kid)), Max: api.Most, Shrink: 1})
			continue
		}
		own := s.style(kid)
		ms := s.margins(own)
		it := api.Item{
			Min: s.used(own.Min, inner, 0), Max: s.used(own.Max, inner, api.Most), Grow: own.Grow, Shrink: own.Shrink,
			Extra: own.Padding[0].V + own.Padding[1].V + ms[0] + ms[1],
		}
		least, most, e := intrinsic.Sizes(s.ns, s.m, kid)
		s.ok(e)
		it.Base = s.used(own.Basis, inner, s.used(own.Inline, inner, max(least, most)))
		items = append(items, it)
	}
	counts, e := flexline.Collect(items, inner, style.Wrap)
	s.ok(e)
	var all []api.Frag
	top, next := 0, 0
	for _, n := range counts {
		frags, high := s.line(kids[next:next+n], items[next:next+n], style, inner)
		all = append(all, moved(frags, 0, top)...)
		top, next = top+high, next+n
	}
	return all, top
}

func (s slow) line(kids []int, items []api.Item, style api.Style, inner int) ([]api.Frag, int) {
	sizes, e := flexible.Resolve(items, inner)
	s.ok(e)
	laid := make([][]api.Frag, len(kids))
	highs, outers := make([]int, len(kids)), make([]int, len(kids))
	high := 0
	for i, kid := range kids {
		outers[i] = sizes[i] + items[i].Extra
		if s.ns[kid].Kind == api.KindText {
			rects, end, e := flow.Flow(s.words(kid), api.AlignStart, nil, sizes[i], 0)
			s.ok(e)
			laid[i], highs[i] = lines(kid, rects), end
		} else {
			ms := s.margins(s.style(kid))
			size, frags := s.lay(kid, sizes[i])
			laid[i], highs[i] = frags, size.Block+ms[2]+ms[3]
		}
		high = max(high, highs[i])
	}
	if !style.Wrap && style.Block.Kind == api.LengthPx {
		high = style.Block.V
	}
	begins, e := cross.Main(style.Just, inner, outers)
	s.ok(e)
	var all []api.Frag
	for i, kid := range kids {
		own := s.style(kid)
		ms := s.margins(own)
		how := style.Items
		if how == api.ItemStretch && (s.ns[kid].Kind == api.KindText || own.Block.Kind != api.LengthAuto) {
			how = api.ItemStart
		}
		at, size, e := cross.Cross(how, high, highs[i])
		s.ok(e)
		if how == api.ItemStretch {
			laid[i][0].Rect.Size.Block = max(0, size-ms[2]-ms[3])
		}
		all = append(all, moved(laid[i], begins[i]+ms[0], at+ms[2])...)
	}
	return all, high
}

func TestSlow(t *testing.T) {
	r := probe.Rand(22)
	floats, many := 0, 0
	for i := range 3000 {
		ns := r.Forest(r.Of(4, 10, 32, 100), r.Of(100, 2000, 8191))
		m := mode.All()[r.Next(6)]
		inner := r.Of(0, 100, r.Next(3000), r.Next(20000))
		size, frags, e := box.Lay(ns, m, 0, inner)
		want, all := slow{t, ns, m}.lay(0, inner)
		if size != want || told(frags) != told(all) || e != api.OK {
			t.Fatalf("P22.2, P22.3: tree %d: %v, inner %d: %v, %d%s\nwant %v%s", i, ns, inner, size, e, told(frags), want, told(all))
		}
		for _, n := range ns {
			if n.Float != api.FloatNone {
				floats++
			}
		}
		many = max(many, len(frags))
	}
	if floats < 1000 || many < 40 {
		t.Errorf("%d floats, %d pieces at most", floats, many)
	}
}

// TestSmall (P22.4): no number is beyond Most, of the greatest trees, in the
// longest room.
func TestSmall(t *testing.T) {
	r := probe.Rand(23)
	for range 300 {
		ns := r.Forest(200, 8191)
		_, frags, e := box.Lay(ns, mode.All()[r.Next(6)], 0, room-r.Next(3))
		if e != api.OK {
			t.Fatalf("P22.4: %d; %v", e, ns)
		}
		for _, f := range frags {
			x := f.Rect
			for _, n := range []int{x.At.Inline, x.At.Block, x.Size.Inline, x.Size.Block} {
				if n > api.Most || n < -api.Most {
					t.Fatalf("P22.4: %v; %v", f, ns)
				}
			}
			if x.Size.Inline < 0 || x.Size.Block < 0 {
				t.Fatalf("P22.1: %v; %v", f, ns)
			}
		}
	}
}

// TestKept: what is handed in is not changed; calls at one time answer alike.
func TestKept(t *testing.T) {
	r := probe.Rand(24)
	for range 20 {
		ns := r.Forest(60, 2000)
		want := ns
		ns = slices.Clone(ns)
		for i := range ns {
			ns[i].Decls = slices.Clone(ns[i].Decls)
		}
		_, first, _ := box.Lay(ns, plain, 0, 3000)
		answers := make([]string, 8)
		var all sync.WaitGroup
		for i := range answers {
			all.Add(1)
			go func() {
				defer all.Done()
				_, frags, _ := box.Lay(ns, plain, 0, 3000)
				answers[i] = told(frags)
				frags[0] = api.Frag{Node: 9}
			}()
		}
		all.Wait()
		for _, a := range answers {
			if a != told(first) {
				t.Fatalf("R5: %s, %s", a, told(first))
			}
		}
		for i := range ns {
			if !slices.Equal(ns[i].Decls, want[i].Decls) || ns[i].Text != want[i].Text || ns[i].Parent != want[i].Parent {
				t.Fatal("R4: Lay changes what is handed in")
			}
		}
	}
}
