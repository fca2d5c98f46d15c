package node_test

import (
	"slices"
	"testing"

	"forme/api"
	"forme/node"
)

func TestNode(t *testing.T) {
	ns := []api.Node{{Parent: -1}, {Parent: 0, Decls: []api.Decl{{Prop: api.PropTextAlign, Value: "left"}}}, {Parent: 0, Kind: api.KindText, Text: " il a"}}
	if got := node.Kids(ns, 0); !slices.Equal(got, []int{1, 2}) {
		t.Errorf("Kids: %v", got)
	}
	if got := node.Kids(ns, 1); len(got) != 0 {
		t.Errorf("Kids: %v", got)
	}
	if got := node.Style(api.Mode{Dir: api.DirRtl}, ns[1]); got.Align != api.AlignEnd {
		t.Errorf("Style: %v", got)
	}
	if got := node.Words(ns[2]); !slices.Equal(got, []api.Word{{Text: "il", Advance: 384, Spaces: 1}, {Text: "a", Advance: 512}}) {
		t.Errorf("Words: %v", got)
	}
}
