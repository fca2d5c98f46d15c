package probe_test

import (
	"testing"

	"forme/api"
	"forme/probe"
	"forme/tree"
)

func TestTree(t *testing.T) {
	ns := probe.Tree(`
block text-align: end
  text a  b
  flex float-end clear-both width: 50%; margin-left: auto
    block
  block clear-start`)
	want := []api.Node{
		{Parent: -1, Decls: []api.Decl{{Prop: api.PropTextAlign, Value: "end"}}},
		{Parent: 0, Kind: api.KindText, Text: "a  b"},
		{Parent: 0, Kind: api.KindFlex, Float: api.FloatEnd, Clear: api.ClearBoth, Decls: []api.Decl{{Prop: api.PropWidth, Value: "50%"}, {Prop: api.PropMarginLeft, Value: "auto"}}},
		{Parent: 2},
		{Parent: 0, Clear: api.ClearStart},
	}
	if len(ns) != len(want) {
		t.Fatalf("%d nodes: %v", len(ns), ns)
	}
	for i, n := range want {
		got := ns[i]
		same := got.Parent == n.Parent && got.Kind == n.Kind && got.Float == n.Float && got.Clear == n.Clear && got.Text == n.Text && len(got.Decls) == len(n.Decls)
		for k := range n.Decls {
			same = same && got.Decls[k] == n.Decls[k]
		}
		if !same {
			t.Errorf("node %d: %v, want %v", i, got, n)
		}
	}
}

func TestForest(t *testing.T) {
	r := probe.Rand(1)
	deep, great := 0, 0
	for range 500 {
		ns := r.Forest(32, 8191)
		if !tree.May(ns) {
			t.Fatalf("may not be: %v", ns)
		}
		great = max(great, len(ns))
		for i := range ns {
			d, _ := tree.Depth(ns, i)
			deep = max(deep, d)
		}
	}
	if deep < 4 || great < 25 {
		t.Errorf("%d deep, %d nodes", deep, great)
	}
}
