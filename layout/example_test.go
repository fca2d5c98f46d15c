package layout_test

import (
	"fmt"

	"forme/api"
	"forme/layout"
)

// A block with a padding at the left, a float at its lines' end, and a text; the
// lines run from right to left.
func ExampleLayout() {
	ns := []api.Node{
		{Parent: -1, Kind: api.KindBlock, Decls: []api.Decl{{Prop: api.PropPaddingLeft, Value: "100"}}},
		{Parent: 0, Kind: api.KindBlock, Float: api.FloatEnd, Decls: []api.Decl{{Prop: api.PropWidth, Value: "25%"}, {Prop: api.PropHeight, Value: "900"}}},
		{Parent: 0, Kind: api.KindText, Text: "boxes laid along lines"},
	}
	ps, errno := layout.Layout(ns, api.Mode{Writing: api.ModeHtb, Dir: api.DirRtl}, 8100, 4000)
	if errno != api.OK {
		fmt.Println(errno)
		return
	}
	for _, p := range ps {
		fmt.Println(p.Node, p.Line, p.Box.X, p.Box.Y, p.Box.W, p.Box.H)
	}
	// Output:
	// 0 -1 0 0 8100 1280
	// 1 -1 100 0 2000 900
	// 2 0 3876 0 4224 640
	// 2 1 3684 640 4416 640
}
