package tree_test

import (
	"math"
	"slices"
	"strings"
	"testing"

	"forme/api"
	"forme/tree"
)

func block(parent int) api.Node { return api.Node{Parent: parent} }

func text(parent int, s string) api.Node {
	return api.Node{Parent: parent, Kind: api.KindText, Text: s}
}

func flex(parent int) api.Node { return api.Node{Parent: parent, Kind: api.KindFlex} }

// chain is a tree of so many nodes, each the kid of the one ahead of it.
func chain(n int) []api.Node {
	ns := make([]api.Node, n)
	for i := range ns {
		ns[i].Parent = i - 1
	}
	return ns
}

// wide is a tree of so many nodes, all but one the first one's kids.
func wide(n int) []api.Node {
	ns := make([]api.Node, n)
	if n > 0 {
		ns[0].Parent = -1
	}
	return ns
}

func TestMay(t *testing.T) {
	floating, clearing := api.Node{Float: api.FloatEnd, Clear: api.ClearBoth}, api.Node{Clear: api.ClearStart}
	for i, ns := range [][]api.Node{
		{block(-1)},
		{flex(-1)},
		{block(-1), text(0, "")},
		{block(-1), text(0, strings.Repeat("x", 80))},
		{block(-1), text(0, "\xff")},
		{flex(-1), text(0, "a"), block(0), flex(0)},
		{block(-1), floating, clearing, {Kind: api.KindFlex, Float: api.FloatStart}},
		{flex(-1), block(0), {Parent: 1, Float: api.FloatStart}},
		{block(-1), block(0), block(0), text(1, "late"), block(2), text(0, "b")},
		{{Parent: -1, Decls: make([]api.Decl, 16)}},
		{{Parent: -1, Decls: []api.Decl{{Prop: 28, Value: strings.Repeat("x", 16)}, {Prop: 0}}}},
		{block(-1), {Kind: api.KindText, Decls: []api.Decl{}}},
		chain(7),
		wide(32),
		append(chain(6), block(5), block(5), flex(4)),
	} {
		if !tree.May(ns) {
			t.Errorf("P11.1: row %d may be", i)
		}
	}
}

var mayNot = [][]api.Node{
	nil,
	{},
	wide(33),
	{block(0)},
	{block(-2)},
	{block(1)},
	{text(-1, "a")},
	{{Parent: -1, Float: api.FloatStart}},
	{{Parent: -1, Clear: api.ClearBoth}},
	{block(-1), block(-1)},
	{block(-1), block(1)},
	{block(-1), block(2), block(0)},
	{block(-1), block(math.MinInt)},
	{block(-1), block(math.MaxInt)},
	{block(-1), text(0, "a"), text(1, "b")},
	{block(-1), text(0, "a"), block(1)},
	chain(8),
	append(chain(7), block(6)),
	{{Parent: -1, Kind: 3}},
	{{Parent: -1, Kind: -1}},
	{block(-1), {Kind: math.MinInt}},
	{block(-1), {Float: 3}},
	{block(-1), {Float: -1}},
	{block(-1), {Clear: 4}},
	{block(-1), {Clear: -1}},
	{block(-1), {Kind: api.KindText, Float: api.FloatStart}},
	{block(-1), {Kind: api.KindText, Clear: api.ClearEnd}},
	{flex(-1), {Float: api.FloatEnd}},
	{flex(-1), {Clear: api.ClearStart}},
	{{Parent: -1, Decls: make([]api.Decl, 17)}},
	{{Parent: -1, Decls: []api.Decl{{Prop: 0}, {Prop: 29}}}},
	{{Parent: -1, Decls: []api.Decl{{Prop: -1}}}},
	{{Parent: -1, Decls: []api.Decl{{Prop: 5}, {Prop: 0, Value: strings.Repeat("x", 17)}}}},
	{block(-1), text(0, strings.Repeat("x", 81))},
	{block(-1), {Kind: api.KindText, Decls: make([]api.Decl, 1)}},
	{{Parent: -1, Text: "a"}},
	{block(-1), {Kind: api.KindFlex, Text: " "}},
}

func TestMayNot(t *testing.T) {
	for i, ns := range mayNot {
		if tree.May(ns) {
			t.Errorf("P11.1: row %d may not be", i)
		}
		if got, e := tree.Kids(ns, 0); len(got) != 0 || e != api.ErrTreeForm {
			t.Errorf("P11.2: row %d: Kids: %v, %d", i, got, e)
		}
		if got, e := tree.Depth(ns, 0); got != 0 || e != api.ErrTreeForm {
			t.Errorf("P11.2: row %d: Depth: %d, %d", i, got, e)
		}
	}
}

func TestKidsAndDepth(t *testing.T) {
	ns := []api.Node{block(-1), block(0), flex(0), text(1, "a"), block(2), text(0, "b"), text(4, "c"), block(1)}
	kids := [][]int{{1, 2, 5}, {3, 7}, {4}, nil, {6}, nil, nil, nil}
	depths := []int{0, 1, 1, 2, 2, 1, 3, 2}
	for at := range ns {
		if got, e := tree.Kids(ns, at); !slices.Equal(got, kids[at]) || e != api.OK {
			t.Errorf("P11.2: Kids of %d: %v, %d; want %v", at, got, e, kids[at])
		}
		if got, e := tree.Depth(ns, at); got != depths[at] || e != api.OK {
			t.Errorf("P11.2: Depth of %d: %d, %d; want %d", at, got, e, depths[at])
		}
	}
	for _, at := range []int{-1, len(ns), math.MinInt, math.MaxInt} {
		if got, e := tree.Kids(ns, at); len(got) != 0 || e != api.ErrTreeForm {
			t.Errorf("P11.2: Kids of %d: %v, %d", at, got, e)
		}
		if got, e := tree.Depth(ns, at); got != 0 || e != api.ErrTreeForm {
			t.Errorf("P11.2: Depth of %d: %d, %d", at, got, e)
		}
	}
	for at := range 7 {
		if got, e := tree.Depth(chain(7), at); got != at || e != api.OK {
			t.Errorf("P11.2: Depth of %d: %d, %d", at, got, e)
		}
	}
}
