package cascade_test

import (
	"math"
	"slices"
	"strings"
	"testing"

	"forme/api"
	"forme/cascade"
	"forme/mode"
	"forme/prop"
)

var plain = api.Mode{}

func px(v int) api.Length { return api.Length{Kind: api.LengthPx, V: v} }

func percent(v int) api.Length { return api.Length{Kind: api.LengthPercent, V: v} }

func four(x api.Length) [4]api.Length { return [4]api.Length{x, x, x, x} }

// fresh is New's style, written out.
func fresh() api.Style {
	return api.Style{Min: px(0), Margin: four(px(0)), Padding: four(px(0)), Shrink: 1}
}

func TestNew(t *testing.T) {
	if got := cascade.New(); got != fresh() {
		t.Errorf("P10.1: %v", got)
	}
	if !cascade.May(cascade.New()) {
		t.Error("P10.1: New's style may be")
	}
}

func TestMay(t *testing.T) {
	auto, odd := api.Length{}, api.Length{Kind: 3}
	lengths := func(set func(s *api.Style, x api.Length), good []api.Length, bad []api.Length) {
		t.Helper()
		for i, xs := range [][]api.Length{good, append(bad, odd, api.Length{V: 1}, api.Length{Kind: -1}, px(8192), px(math.MinInt), percent(101))} {
			for _, x := range xs {
				s := fresh()
				set(&s, x)
				if got := cascade.May(s); got != (i == 0) {
					t.Errorf("P10.1: %v: %v", x, got)
				}
			}
		}
	}
	lengths(func(s *api.Style, x api.Length) { s.Inline = x }, []api.Length{auto, px(0), px(8191), percent(0), percent(100)}, []api.Length{px(-1), percent(-1)})
	lengths(func(s *api.Style, x api.Length) { s.Basis = x }, []api.Length{auto, px(0), px(8191), percent(0), percent(100)}, []api.Length{px(-1), percent(-1)})
	lengths(func(s *api.Style, x api.Length) { s.Max = x }, []api.Length{auto, px(0), px(8191), percent(0), percent(100)}, []api.Length{px(-1), percent(-1)})
	lengths(func(s *api.Style, x api.Length) { s.Block = x }, []api.Length{auto, px(0), px(8191)}, []api.Length{px(-1), percent(0), percent(50), percent(-1)})
	lengths(func(s *api.Style, x api.Length) { s.Min = x }, []api.Length{px(0), px(8191), percent(0), percent(100)}, []api.Length{auto, px(-1), percent(-1)})
	for i := range 4 {
		lengths(func(s *api.Style, x api.Length) { s.Margin[i] = x }, []api.Length{auto, px(0), px(8191), px(-1), px(-8191)}, []api.Length{percent(0), percent(50), percent(-1), px(-8192)})
		lengths(func(s *api.Style, x api.Length) { s.Padding[i] = x }, []api.Length{px(0), px(8191)}, []api.Length{auto, px(-1), percent(0), percent(50)})
	}
	numbers := func(set func(s *api.Style, x int), most int) {
		t.Helper()
		for _, x := range []int{0, 1, most, -1, most + 1, math.MinInt, math.MaxInt} {
			s := fresh()
			set(&s, x)
			if got := cascade.May(s); got != (x >= 0 && x <= most) {
				t.Errorf("P10.1: %d: %v", x, got)
			}
		}
	}
	numbers(func(s *api.Style, x int) { s.Grow = x }, 100)
	numbers(func(s *api.Style, x int) { s.Shrink = x }, 100)
	numbers(func(s *api.Style, x int) { s.Align = x }, 3)
	numbers(func(s *api.Style, x int) { s.Items = x }, 3)
	numbers(func(s *api.Style, x int) { s.Just = x }, 3)
	wrap := fresh()
	wrap.Wrap = true
	if !cascade.May(wrap) || cascade.May(api.Style{}) {
		t.Error("P10.1: Wrap may be, the zero style may not")
	}
}

// decl is a declaration, its property by its name.
func decl(text string) api.Decl {
	name, value, _ := strings.Cut(text, ": ")
	p, e := prop.Parse(name)
	if e != api.OK {
		panic(text)
	}
	return api.Decl{Prop: p, Value: value}
}

func decls(texts ...string) []api.Decl {
	var ds []api.Decl
	for _, text := range texts {
		ds = append(ds, decl(text))
	}
	return ds
}

func TestApply(t *testing.T) {
	for _, c := range []struct {
		text string
		set  func(s *api.Style)
	}{
		{"inline-size: 50%", func(s *api.Style) { s.Inline = percent(50) }},
		{"inline-size: 8191", func(s *api.Style) { s.Inline = px(8191) }},
		{"width: 12", func(s *api.Style) { s.Inline = px(12) }},
		{"block-size: 12", func(s *api.Style) { s.Block = px(12) }},
		{"height: 12", func(s *api.Style) { s.Block = px(12) }},
		{"min-inline-size: 5%", func(s *api.Style) { s.Min = percent(5) }},
		{"max-inline-size: 5%", func(s *api.Style) { s.Max = percent(5) }},
		{"margin-inline-start: auto", func(s *api.Style) { s.Margin[0] = api.Length{} }},
		{"margin-inline-end: -9", func(s *api.Style) { s.Margin[1] = px(-9) }},
		{"margin-block-start: 9", func(s *api.Style) { s.Margin[2] = px(9) }},
		{"margin-block-end: 9", func(s *api.Style) { s.Margin[3] = px(9) }},
		{"margin-top: 9", func(s *api.Style) { s.Margin[2] = px(9) }},
		{"margin-right: 9", func(s *api.Style) { s.Margin[1] = px(9) }},
		{"margin-bottom: 9", func(s *api.Style) { s.Margin[3] = px(9) }},
		{"margin-left: 9", func(s *api.Style) { s.Margin[0] = px(9) }},
		{"padding-inline-start: 9", func(s *api.Style) { s.Padding[0] = px(9) }},
		{"padding-inline-end: 9", func(s *api.Style) { s.Padding[1] = px(9) }},
		{"padding-block-start: 9", func(s *api.Style) { s.Padding[2] = px(9) }},
		{"padding-block-end: 9", func(s *api.Style) { s.Padding[3] = px(9) }},
		{"padding-top: 9", func(s *api.Style) { s.Padding[2] = px(9) }},
		{"padding-right: 9", func(s *api.Style) { s.Padding[1] = px(9) }},
		{"padding-bottom: 9", func(s *api.Style) { s.Padding[3] = px(9) }},
		{"padding-left: 9", func(s *api.Style) { s.Padding[0] = px(9) }},
		{"flex-basis: 40%", func(s *api.Style) { s.Basis = percent(40) }},
		{"flex-grow: 100", func(s *api.Style) { s.Grow = 100 }},
		{"flex-shrink: 0", func(s *api.Style) { s.Shrink = 0 }},
		{"text-align: start", func(s *api.Style) {}},
		{"text-align: end", func(s *api.Style) { s.Align = api.AlignEnd }},
		{"text-align: center", func(s *api.Style) { s.Align = api.AlignCenter }},
		{"text-align: justify", func(s *api.Style) { s.Align = api.AlignJustify }},
		{"text-align: left", func(s *api.Style) {}},
		{"text-align: right", func(s *api.Style) { s.Align = api.AlignEnd }},
		{"align-items: stretch", func(s *api.Style) {}},
		{"align-items: start", func(s *api.Style) { s.Items = api.ItemStart }},
		{"align-items: end", func(s *api.Style) { s.Items = api.ItemEnd }},
		{"align-items: center", func(s *api.Style) { s.Items = api.ItemCenter }},
		{"justify-content: start", func(s *api.Style) {}},
		{"justify-content: end", func(s *api.Style) { s.Just = api.JustEnd }},
		{"justify-content: center", func(s *api.Style) { s.Just = api.JustCenter }},
		{"justify-content: space-between", func(s *api.Style) { s.Just = api.JustBetween }},
		{"flex-wrap: nowrap", func(s *api.Style) {}},
		{"flex-wrap: wrap", func(s *api.Style) { s.Wrap = true }},
	} {
		want := fresh()
		c.set(&want)
		if got, e := cascade.Apply(plain, decls(c.text)); got != want || e != api.OK {
			t.Errorf("P10.2: %s: %v, %d", c.text, got, e)
		}
	}
}

// TestPassedOver: a value that is none, or that may not be, changes nothing.
func TestPassedOver(t *testing.T) {
	ahead := decls("inline-size: 7", "block-size: 8", "min-inline-size: 1", "max-inline-size: 9", "margin-left: 3", "padding-left: 4",
		"flex-basis: 5", "flex-grow: 6", "flex-shrink: 7", "text-align: center", "align-items: center", "justify-content: center", "flex-wrap: wrap")
	want, _ := cascade.Apply(plain, ahead)
	for _, text := range []string{
		"inline-size: -1", "inline-size: 101%", "inline-size: 8192", "inline-size: ", "inline-size: 7px", "inline-size: start",
		"block-size: 50%", "block-size: -1", "block-size: x",
		"min-inline-size: auto", "min-inline-size: -1", "max-inline-size: -1%",
		"margin-left: 5%", "margin-left: 8192", "margin-left: x",
		"padding-left: auto", "padding-left: -1", "padding-left: 5%",
		"flex-basis: -1", "flex-basis: content",
		"flex-grow: -1", "flex-grow: 101", "flex-grow: 5%", "flex-grow: auto", "flex-grow: 1.5",
		"flex-shrink: -1", "flex-shrink: 101", "flex-shrink: 5%", "flex-shrink: auto",
		"text-align: Start", "text-align: ", "text-align: stretch", "text-align: 1",
		"align-items: justify", "align-items: left", "align-items: 0",
		"justify-content: stretch", "justify-content: between", "justify-content: left",
		"flex-wrap: ", "flex-wrap: true", "flex-wrap: wrap ",
	} {
		if got, e := cascade.Apply(plain, append(slices.Clone(ahead), decl(text))); got != want || e != api.OK {
			t.Errorf("P10.2: %s: %v, %d; want %v", text, got, e, want)
		}
	}
}

// TestLast: of two declarations of one property the last one holds, physical or
// logical; one that is passed over leaves the earlier one.
func TestLast(t *testing.T) {
	got, e := cascade.Apply(plain, decls("width: 5", "inline-size: 6", "margin-left: 1", "margin-inline-start: 2", "margin-left: 5%", "flex-wrap: wrap", "flex-wrap: nowrap"))
	want := fresh()
	want.Inline, want.Margin[0] = px(6), px(2)
	if got != want || e != api.OK {
		t.Errorf("P10.2: %v, %d", got, e)
	}
}

// TestModes: left and right turn with Dir; physical properties by layer 9's Map.
func TestModes(t *testing.T) {
	for _, m := range mode.All() {
		for i, value := range []string{"left", "right"} {
			want := fresh()
			want.Align = i
			if m.Dir == api.DirRtl {
				want.Align = 1 - i
			}
			if got, e := cascade.Apply(m, decls("text-align: "+value)); got != want || e != api.OK {
				t.Errorf("P10.2: %v, %s: %v, %d", m, value, got, e)
			}
		}
		for p := api.PropWidth; p <= api.PropPaddingLeft; p++ {
			logical, _ := prop.Map(m, p)
			want, _ := cascade.Apply(plain, []api.Decl{{Prop: logical, Value: "9"}})
			if got, e := cascade.Apply(m, []api.Decl{{Prop: p, Value: "9"}}); got != want || e != api.OK || got == fresh() {
				t.Errorf("P10.2: %v, %d: %v, %d; want %v", m, p, got, e, want)
			}
		}
	}
}

func TestApplyRefuses(t *testing.T) {
	refused := func(m api.Mode, ds []api.Decl) {
		t.Helper()
		if got, e := cascade.Apply(m, ds); got != (api.Style{}) || e != api.ErrCascadeForm {
			t.Errorf("P10.2: %v, %d declarations: %v, %d", m, len(ds), got, e)
		}
	}
	for _, m := range []api.Mode{{Writing: 3}, {Writing: -1}, {Dir: 2}, {Dir: -1}} {
		refused(m, nil)
	}
	for _, p := range []int{-1, 29, math.MinInt, math.MaxInt} {
		refused(plain, []api.Decl{{Prop: 0, Value: "5"}, {Prop: p, Value: "5"}})
	}
	refused(plain, make([]api.Decl, 17))
	if got, e := cascade.Apply(plain, make([]api.Decl, 16)); got != fresh() || e != api.OK {
		t.Errorf("P10.2: 16 declarations: %v, %d", got, e)
	}
	if got, e := cascade.Apply(plain, nil); got != fresh() || e != api.OK {
		t.Errorf("P10.2: no declarations: %v, %d", got, e)
	}
}
