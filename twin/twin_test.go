package twin_test

import (
	"math"
	"slices"
	"testing"
	"unsafe"

	"forme/api"
	"forme/cascade"
	"forme/geom"
	"forme/layout"
	"forme/mode"
	"forme/probe"
	"forme/prop"
	"forme/tree"
	"forme/twin"
)

const most = 1 << 30

var plain = api.Mode{}

var wrongModes = []api.Mode{{Writing: 3}, {Writing: -1}, {Dir: 2}, {Dir: -1}}

func name(p int) string {
	s, _ := prop.Name(p)
	return s
}

// physical holds, by mode, what width, height, top, right, bottom, left are in
// the plain one.
var physical = [6][6]string{
	{"width", "height", "top", "right", "bottom", "left"},
	{"width", "height", "top", "left", "bottom", "right"},
	{"height", "width", "left", "top", "right", "bottom"},
	{"height", "width", "right", "top", "left", "bottom"},
	{"height", "width", "left", "bottom", "right", "top"},
	{"height", "width", "right", "bottom", "left", "top"},
}

func turned(i int, p int) string {
	switch {
	case p == api.PropWidth || p == api.PropHeight:
		return physical[i][p-api.PropWidth]
	case p >= api.PropMarginTop && p <= api.PropMarginLeft:
		return "margin-" + physical[i][2+p-api.PropMarginTop]
	case p >= api.PropPaddingTop && p <= api.PropPaddingLeft:
		return "padding-" + physical[i][2+p-api.PropPaddingTop]
	}
	return name(p)
}

func TestTurnProps(t *testing.T) {
	for i, m := range mode.All() {
		for p := range api.PropWrap + 1 {
			ns := []api.Node{{Parent: -1, Decls: []api.Decl{{Prop: p, Value: "7%"}, {Prop: api.PropGrow, Value: "x"}}}}
			got, e := twin.Turn(m, ns)
			if e != api.OK || len(got) != 1 || len(got[0].Decls) != 2 {
				t.Fatalf("P25.1: %v, %s: %v, %d", m, name(p), got, e)
			}
			if d := got[0].Decls[0]; name(d.Prop) != turned(i, p) || d.Value != "7%" {
				t.Errorf("P25.1: %v, %s: %s: %s, want %s", m, name(p), name(d.Prop), d.Value, turned(i, p))
			}
			if d := got[0].Decls[1]; d.Prop != api.PropGrow || d.Value != "x" {
				t.Errorf("P25.1: %v, %s: %v", m, name(p), d)
			}
		}
	}
}

func TestTurnValues(t *testing.T) {
	for _, m := range mode.All() {
		for _, p := range []int{api.PropTextAlign, api.PropAlignItems, api.PropJustify, api.PropWrap} {
			for _, value := range []string{"left", "right", "start", "end", "center", "", "Left", "left ", "\xff\xef", "\xef\xbf", "\uFFFDx"} {
				want := value
				if p == api.PropTextAlign && m.Dir == api.DirRtl {
					switch value {
					case "left":
						want = "right"
					case "right":
						want = "left"
					}
				}
				got, e := twin.Turn(m, []api.Node{{Parent: -1, Decls: []api.Decl{{Prop: p, Value: value}}}})
				if e != api.OK || got[0].Decls[0] != (api.Decl{Prop: p, Value: want}) {
					t.Errorf("P25.1: %v, %s: %q: %v, %d", m, name(p), value, got, e)
				}
			}
		}
	}
}

func same(a, b api.Node) bool {
	return a.Parent == b.Parent && a.Kind == b.Kind && a.Float == b.Float && a.Clear == b.Clear && a.Text == b.Text && len(a.Decls) == len(b.Decls)
}

// TestTurn: the same tree, but in its declarations; its styles in the plain mode
// are the tree's in its mode.
func TestTurn(t *testing.T) {
	r := probe.Rand(25)
	for range 1000 {
		ns, m := r.Forest(100, 500), mode.All()[r.Next(6)]
		before := slices.Clone(ns)
		for i := range before {
			before[i].Decls = slices.Clone(ns[i].Decls)
		}
		got, e := twin.Turn(m, ns)
		if e != api.OK || len(got) != len(ns) || !tree.May(got) {
			t.Fatalf("P25.1: %v: %v, %d", ns, got, e)
		}
		for i, n := range ns {
			want, _ := cascade.Apply(m, n.Decls)
			style, _ := cascade.Apply(plain, got[i].Decls)
			if !same(got[i], n) || style != want {
				t.Fatalf("P25.1: %v, %v: %v", m, n, got[i])
			}
			clear(got[i].Decls)
			if !same(n, before[i]) || !slices.Equal(n.Decls, before[i].Decls) {
				t.Fatalf("R4: Turn changes or shares %v", before[i])
			}
		}
	}
}

// TestOwn (R4): texts and values are in memory of their own.
func TestOwn(t *testing.T) {
	ns := probe.Tree("block width: 50%\n  text words and words")
	got, _ := twin.Turn(plain, ns)
	if unsafe.StringData(got[1].Text) == unsafe.StringData(ns[1].Text) {
		t.Error("R4: a text is the tree's")
	}
	if unsafe.StringData(got[0].Decls[0].Value) == unsafe.StringData(ns[0].Decls[0].Value) {
		t.Error("R4: a value is the tree's")
	}
}

func TestTurnRefuses(t *testing.T) {
	refused := func(m api.Mode, ns []api.Node) {
		t.Helper()
		if got, e := twin.Turn(m, ns); len(got) != 0 || e != api.ErrTwinForm {
			t.Errorf("P25.1: %v, %v: %v, %d", m, ns, got, e)
		}
	}
	for _, m := range wrongModes {
		refused(m, []api.Node{{Parent: -1}})
	}
	for _, m := range mode.All() {
		refused(m, nil)
		refused(m, []api.Node{{}})
		refused(m, probe.Tree("block\n  text a\n    text b"))
		refused(m, probe.Tree("block colour: red"))
		refused(m, probe.Tree("block width: 12345678901234567"))
	}
}

// TestImage: a box 10 from the left, 3 from the top, in the plain mode.
func TestImage(t *testing.T) {
	ps := []api.Piece{{Node: 7, Line: -1, Box: api.Box{X: 10, Y: 3, W: 25, H: 4}}, {Node: -9, Line: 999, Box: api.Box{}}}
	for i, want := range [][2]api.Box{
		{{X: 10, Y: 3, W: 25, H: 4}, {}},
		{{X: 65, Y: 3, W: 25, H: 4}, {X: 100}},
		{{X: 93, Y: 10, W: 4, H: 25}, {X: 100}},
		{{X: 93, Y: 25, W: 4, H: 25}, {X: 100, Y: 60}},
		{{X: 3, Y: 10, W: 4, H: 25}, {}},
		{{X: 3, Y: 25, W: 4, H: 25}, {Y: 60}},
	} {
		m := mode.All()[i]
		before := slices.Clone(ps)
		got, e := twin.Image(m, 100, 60, ps)
		told := []api.Piece{{Node: 7, Line: -1, Box: want[0]}, {Node: -9, Line: 999, Box: want[1]}}
		if !slices.Equal(got, told) || e != api.OK || !slices.Equal(ps, before) {
			t.Errorf("P25.2: %v: %v, %d; want %v", m, got, e, told)
		}
		if got, e := twin.Image(m, 8191, 0, nil); len(got) != 0 || e != api.OK {
			t.Errorf("P25.2: %v: %v, %d", m, got, e)
		}
		if got, e := twin.Image(m, 0, 8191, make([]api.Piece, 4096)); len(got) != 4096 || e != api.OK {
			t.Errorf("P25.2: %v: %d pieces, %d", m, len(got), e)
		}
	}
}

func TestImageRefuses(t *testing.T) {
	refused := func(m api.Mode, w, h int, ps []api.Piece) {
		t.Helper()
		if got, e := twin.Image(m, w, h, ps); len(got) != 0 || e != api.ErrTwinForm {
			t.Errorf("P25.2: %v, %d, %d, %d pieces: %v, %d", m, w, h, len(ps), got, e)
		}
	}
	for _, m := range wrongModes {
		refused(m, 10, 10, nil)
	}
	for _, m := range mode.All() {
		for _, x := range []int{-1, 8192, math.MinInt, math.MaxInt} {
			refused(m, x, 10, nil)
			refused(m, 10, x, nil)
		}
		refused(m, 10, 10, make([]api.Piece, 4097))
		for _, b := range []api.Box{
			{W: -1}, {H: -1}, {W: most + 1}, {H: most + 1}, {W: math.MaxInt}, {X: math.MinInt}, {Y: math.MaxInt},
			{X: 4*most + 1}, {X: -4*most - 1}, {Y: 4*most + 1}, {Y: -4*most - 1},
			// These go back, but layer 3's Physical takes nothing so far.
			{X: most + 1}, {X: -most - 1}, {Y: most + 1}, {Y: -most - 1},
		} {
			refused(m, 10, 10, []api.Piece{{Box: b}})
			refused(m, 10, 10, []api.Piece{{Box: api.Box{X: 1}}, {Box: b}})
		}
		if got, e := twin.Image(m, 10, 10, []api.Piece{{Box: api.Box{X: most, Y: -most, W: most, H: most}}}); len(got) != 1 || e != api.OK {
			t.Errorf("P25.2: %v: %v, %d", m, got, e)
		}
	}
}

// TestSymmetry (P25.3, T2): laying a tree is laying its twin in the plain mode,
// mapped.
func TestSymmetry(t *testing.T) {
	r := probe.Rand(26)
	pieces := 0
	for range 2000 {
		ns, m := r.Forest(r.Of(10, 40, 100), r.Of(100, 2000, 8191)), mode.All()[r.Next(6)]
		w, h := r.Next(8192), r.Next(8192)
		want, e := layout.Layout(ns, m, w, h)
		turned, e2 := twin.Turn(m, ns)
		in, e3 := geom.Logical(m, w, h)
		ps, e4 := layout.Layout(turned, plain, in.Inline, in.Block)
		got, e5 := twin.Image(m, w, h, ps)
		if e != api.OK || e2 != api.OK || e3 != api.OK || e4 != api.OK || e5 != api.OK {
			t.Fatalf("P25.3: %d, %d, %d, %d, %d: %v", e, e2, e3, e4, e5, ns)
		}
		if !slices.Equal(got, want) {
			t.Fatalf("P25.3: %v, %d, %d: %v\n%v\nwant\n%v", m, w, h, ns, got, want)
		}
		pieces += len(got)
	}
	if pieces < 20000 {
		t.Errorf("%d pieces", pieces)
	}
}
