package intrinsic_test

import (
	"math"
	"strings"
	"testing"

	"forme/api"
	"forme/intrinsic"
	"forme/mode"
	"forme/prop"
)

var plain = api.Mode{}

// box is one with declarations, told as `name: value; name: value`.
func box(parent int, kind int, css string) api.Node {
	n := api.Node{Parent: parent, Kind: kind}
	for text := range strings.SplitSeq(css, "; ") {
		if name, value, ok := strings.Cut(text, ": "); ok {
			p, e := prop.Parse(name)
			if e != api.OK {
				panic(text)
			}
			n.Decls = append(n.Decls, api.Decl{Prop: p, Value: value})
		}
	}
	return n
}

func block(parent int, css string) api.Node { return box(parent, api.KindBlock, css) }

func flex(parent int, css string) api.Node { return box(parent, api.KindFlex, css) }

func text(parent int, s string) api.Node {
	return api.Node{Parent: parent, Kind: api.KindText, Text: s}
}

func TestSizes(t *testing.T) {
	for i, c := range []struct {
		ns          []api.Node
		at          int
		least, most int
	}{
		{[]api.Node{block(-1, "")}, 0, 0, 0},
		{[]api.Node{flex(-1, "")}, 0, 0, 0},
		{[]api.Node{block(-1, "inline-size: 50; padding-left: 5")}, 0, 0, 0},
		{[]api.Node{block(-1, ""), block(0, "")}, 0, 0, 0},
		{[]api.Node{block(-1, ""), block(0, "min-inline-size: 90%")}, 0, 0, 0},
		{[]api.Node{flex(-1, ""), block(0, "padding-left: 7"), flex(0, "margin-right: 2")}, 0, 9, 9},
		{[]api.Node{block(-1, ""), text(0, " aa b  ")}, 1, 1024, 1792},
		{[]api.Node{block(-1, ""), text(0, " aa b  ")}, 0, 1024, 1792},
		{[]api.Node{block(-1, ""), text(0, "")}, 1, 0, 0},
		{[]api.Node{block(-1, ""), text(0, "aa b"), text(0, "ill"), text(0, "a b c")}, 0, 1024, 2048},
		{[]api.Node{flex(-1, ""), text(0, "aa b"), text(0, "ill")}, 0, 1600, 2368},
		{[]api.Node{flex(-1, "flex-wrap: wrap"), text(0, "aa b"), text(0, "ill")}, 0, 1024, 2368},
		// Paddings and margins; LengthAuto is 0.
		{[]api.Node{block(-1, ""), block(0, "inline-size: 100; padding-left: 1; padding-right: 2; margin-left: 4; margin-right: 8")}, 0, 115, 115},
		{[]api.Node{block(-1, ""), block(0, "inline-size: 100; padding-top: 1; padding-bottom: 2; margin-top: 4; margin-bottom: 8")}, 0, 100, 100},
		{[]api.Node{block(-1, ""), block(0, "inline-size: 100; margin-left: auto; margin-right: -30")}, 0, 70, 70},
		{[]api.Node{block(-1, ""), block(0, "inline-size: 100; margin-left: -70; margin-right: -70")}, 0, 0, 0},
		{[]api.Node{flex(-1, ""), block(0, "inline-size: 100; margin-left: -140"), block(0, "inline-size: 30")}, 0, 30, 30},
		// A percentage is its own; so is auto.
		{[]api.Node{block(-1, ""), block(0, "inline-size: 50%"), text(1, "a b")}, 0, 512, 1280},
		{[]api.Node{block(-1, ""), block(0, "padding-left: 7"), text(1, "a b")}, 0, 519, 1287},
		{[]api.Node{block(-1, ""), block(0, "padding-left: 7"), text(1, "a b")}, 1, 512, 1280},
		// At most Max, at least Min, of numbers alone.
		{[]api.Node{block(-1, ""), block(0, "max-inline-size: 600"), text(1, "a b")}, 0, 512, 600},
		{[]api.Node{block(-1, ""), block(0, "max-inline-size: 300; padding-left: 7"), text(1, "a b")}, 0, 307, 307},
		{[]api.Node{block(-1, ""), block(0, "min-inline-size: 600"), text(1, "a b")}, 0, 600, 1280},
		{[]api.Node{block(-1, ""), block(0, "min-inline-size: 600; max-inline-size: 300"), text(1, "a b")}, 0, 600, 600},
		{[]api.Node{block(-1, ""), block(0, "min-inline-size: 90%; max-inline-size: 1%"), text(1, "a b")}, 0, 512, 1280},
		{[]api.Node{block(-1, ""), block(0, "inline-size: 700; max-inline-size: 600"), text(1, "a b")}, 0, 600, 600},
		// Floats are kids like others; each its own least and most.
		{[]api.Node{block(-1, ""), {Parent: 0, Float: api.FloatEnd, Clear: api.ClearBoth}, text(1, "aaa"), block(0, ""), text(3, "a a a")}, 0, 1536, 2048},
		// Deeper; a row in a row; basis and grow do not matter.
		{[]api.Node{block(-1, ""), flex(0, "padding-left: 3"), text(1, "a"), flex(1, "flex-wrap: wrap; margin-left: 5; flex-basis: 9; flex-grow: 4"), text(3, "b b"), text(3, "c")}, 0, 512 + 512 + 8, 512 + 1280 + 512 + 8},
	} {
		least, most, e := intrinsic.Sizes(c.ns, plain, c.at)
		if least != c.least || most != c.most || e != api.OK {
			t.Errorf("P15.1: row %d: %d, %d, %d; want %d, %d", i, least, most, e, c.least, c.most)
		}
	}
}

// TestModes: what is along the lines hangs on the mode.
func TestModes(t *testing.T) {
	ns := []api.Node{block(-1, ""), block(0, "width: 100; height: 40; padding-left: 1; margin-right: 2; padding-top: 4; margin-bottom: 8"), text(1, "a")}
	for i, m := range mode.All() {
		want := 103
		if i >= 2 {
			want = 52
		}
		if least, most, e := intrinsic.Sizes(ns, m, 0); least != want || most != want || e != api.OK {
			t.Errorf("P15.1: %v: %d, %d, %d; want %d", m, least, most, e, want)
		}
	}
}

func TestSizesRefuses(t *testing.T) {
	refused := func(ns []api.Node, m api.Mode, at int) {
		t.Helper()
		if least, most, e := intrinsic.Sizes(ns, m, at); least != 0 || most != 0 || e != api.ErrIntrinsicForm {
			t.Errorf("P15.1: %v, %d: %d, %d, %d", m, at, least, most, e)
		}
	}
	ok := []api.Node{block(-1, ""), text(0, "a")}
	for _, at := range []int{-1, 2, math.MinInt, math.MaxInt} {
		refused(ok, plain, at)
	}
	for _, m := range []api.Mode{{Writing: 3}, {Writing: -1}, {Dir: 2}, {Dir: -1}} {
		refused(ok, m, 0)
	}
	refused(nil, plain, 0)
	refused([]api.Node{text(-1, "a")}, plain, 0)
	refused([]api.Node{block(-1, ""), block(1, "")}, plain, 0)
}

func TestFit(t *testing.T) {
	for _, c := range []struct{ least, most, room, want int }{
		{10, 50, 30, 30}, {10, 50, 5, 10}, {10, 50, 90, 50}, {10, 50, 10, 10}, {10, 50, 50, 50},
		{50, 10, 30, 10}, {50, 10, 90, 10}, {50, 10, 5, 10}, {10, 50, -9, 10}, {0, 0, math.MaxInt, 0}, {math.MinInt, math.MaxInt, math.MinInt, math.MinInt},
	} {
		if got := intrinsic.Fit(c.least, c.most, c.room); got != c.want {
			t.Errorf("P15.2: Fit(%d, %d, %d): %d, want %d", c.least, c.most, c.room, got, c.want)
		}
	}
}

// TestAll: the greatest trees are told too.
func TestAll(t *testing.T) {
	ns := []api.Node{block(-1, "")}
	for len(ns) < 32 {
		ns = append(ns, flex(min(len(ns)-1, 5), strings.Repeat("width: 50%; ", 16)))
	}
	if _, _, e := intrinsic.Sizes(ns, plain, 0); e != api.OK {
		t.Errorf("P15.1: %d", e)
	}
}
