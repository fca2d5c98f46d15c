package layout_test

import (
	"math"
	"slices"
	"strconv"
	"strings"
	"sync"
	"testing"

	"forme/api"
	"forme/layout"
	"forme/mode"
	"forme/node"
	"forme/probe"
	"forme/tree"
)

// told is pieces, each as `node line: x, y, w x h`.
func told(ps []api.Piece) string {
	var s strings.Builder
	for _, p := range ps {
		for i, x := range []int{p.Node, p.Line, p.Box.X, p.Box.Y, p.Box.W, p.Box.H} {
			s.WriteString([]string{"\n", " ", ": ", ", ", ", ", " x "}[i] + strconv.Itoa(x))
		}
	}
	return s.String()
}

const page = `
block margin-inline-start: 10; margin-block-start: 20; padding-inline-start: 1; padding-block-start: 2
  text a b
  block float-end inline-size: 30; block-size: 40
  block margin-block-start: 5; block-size: 7
    flex margin-inline-start: auto; inline-size: 3; block-size: 4`

func TestLayout(t *testing.T) {
	for i, want := range []string{`
0 -1: 10, 20, 1490 x 689
1 0: 11, 22, 1280 x 640
2 -1: 1470, 662, 30 x 40
3 -1: 11, 702, 1489 x 7
4 -1: 1497, 702, 3 x 4`, `
0 -1: 0, 20, 1490 x 689
1 0: 209, 22, 1280 x 640
2 -1: 0, 662, 30 x 40
3 -1: 0, 702, 1489 x 7
4 -1: 0, 702, 3 x 4`, `
0 -1: 151, 10, 1329 x 990
1 0: 838, 11, 640 x 512
1 1: 198, 11, 640 x 512
2 -1: 158, 970, 40 x 30
3 -1: 151, 11, 7 x 989
4 -1: 154, 997, 4 x 3`, `
0 -1: 151, 0, 1329 x 990
1 0: 838, 477, 640 x 512
1 1: 198, 477, 640 x 512
2 -1: 158, 0, 40 x 30
3 -1: 151, 0, 7 x 989
4 -1: 154, 0, 4 x 3`, `
0 -1: 20, 10, 1329 x 990
1 0: 22, 11, 640 x 512
1 1: 662, 11, 640 x 512
2 -1: 1302, 970, 40 x 30
3 -1: 1342, 11, 7 x 989
4 -1: 1342, 997, 4 x 3`, `
0 -1: 20, 0, 1329 x 990
1 0: 22, 477, 640 x 512
1 1: 662, 477, 640 x 512
2 -1: 1302, 0, 40 x 30
3 -1: 1342, 0, 7 x 989
4 -1: 1342, 0, 4 x 3`} {
		m := mode.All()[i]
		if got, e := layout.Layout(probe.Tree(page), m, 1500, 1000); told(got) != want || e != api.OK {
			t.Errorf("P24.1: %v: %d%s\nwant%s", m, e, told(got), want)
		}
	}
}

func TestFirst(t *testing.T) {
	for _, c := range []struct{ tree, want string }{
		{"block", "\n0 -1: 0, 0, 100 x 0"},
		{"flex height: 90", "\n0 -1: 0, 0, 100 x 90"},
		{"block width: 30; margin-left: auto; height: 9; padding-left: 2; margin-top: auto", "\n0 -1: 68, 0, 32 x 9"},
		{"block width: 50%; margin-left: auto; margin-right: auto; margin-top: -7; margin-bottom: 9", "\n0 -1: 25, -7, 50 x 0"},
		{"block max-inline-size: 10%; margin-left: 4", "\n0 -1: 4, 0, 10 x 0"},
		{"block margin-left: -4; margin-right: -8", "\n0 -1: -4, 0, 112 x 0"},
	} {
		if got, e := layout.Layout(probe.Tree(c.tree), api.Mode{}, 100, 60); told(got) != c.want || e != api.OK {
			t.Errorf("P24.1: %s: %d%s, want%s", c.tree, e, told(got), c.want)
		}
	}
}

func TestLayoutRefuses(t *testing.T) {
	refused := func(ns []api.Node, m api.Mode, w, h int) {
		t.Helper()
		if got, e := layout.Layout(ns, m, w, h); len(got) != 0 || e != api.ErrLayoutForm {
			t.Errorf("P24.1: %v, %v, %d, %d: %v, %d", ns, m, w, h, got, e)
		}
	}
	ok := probe.Tree("block\n  text a")
	refused(nil, api.Mode{}, 100, 100)
	refused(probe.Tree("text a"), api.Mode{}, 100, 100)
	refused(probe.Tree("block colour: red"), api.Mode{}, 100, 100)
	refused(probe.Tree("flex\n  block float-end"), api.Mode{}, 100, 100)
	for _, m := range []api.Mode{{Writing: 3}, {Writing: -1}, {Dir: 2}, {Dir: -1}} {
		refused(ok, m, 100, 100)
	}
	for _, x := range []int{-1, 8192, math.MinInt, math.MaxInt} {
		refused(ok, api.Mode{}, x, 100)
		refused(ok, api.Mode{}, 100, x)
	}
	for _, m := range mode.All() {
		if _, e := layout.Layout(ok, m, 0, 8191); e != api.OK {
			t.Errorf("P24.1: %v: %d", m, e)
		}
		if _, e := layout.Layout(ok, m, 8191, 0); e != api.OK {
			t.Errorf("P24.1: %v: %d", m, e)
		}
	}
}

// walk is the numbers of a tree's boxes, each ahead of what is inside.
func walk(ns []api.Node, at int) []int {
	row := []int{at}
	kids, _ := tree.Kids(ns, at)
	for _, kid := range kids {
		row = append(row, walk(ns, kid)...)
	}
	return row
}

// TestAnyTree (T1): any tree is laid; the piece of each box is there once, each
// text's lines too, in the row of the tree's walk.
func TestAnyTree(t *testing.T) {
	r := probe.Rand(24)
	for range 1000 {
		ns := r.Forest(r.Of(5, 30, 100), r.Of(100, 2000, 8191))
		ps, e := layout.Layout(ns, mode.All()[r.Next(6)], r.Next(8192), r.Next(8192))
		if e != api.OK {
			t.Fatalf("T1: %d; %v", e, ns)
		}
		next := 0
		for _, at := range walk(ns, 0) {
			if ns[at].Kind != api.KindText {
				if next == len(ps) || ps[next].Node != at || ps[next].Line != -1 {
					t.Fatalf("T1: piece %d is not that of %d: %s", next, at, told(ps))
				}
				next++
				continue
			}
			line := 0
			for next < len(ps) && ps[next].Node == at {
				if ps[next].Line != line {
					t.Fatalf("T1: line %d of %d: %s", line, at, told(ps))
				}
				next, line = next+1, line+1
			}
			if (line > 0) != (len(node.Words(ns[at])) > 0) {
				t.Fatalf("T1: %d lines of %d: %q", line, at, ns[at].Text)
			}
		}
		if next != len(ps) {
			t.Fatalf("T1: %d pieces of %d: %s", next, len(ps), told(ps))
		}
	}
}

// meet tells whether two boxes overlap.
func meet(a, b api.Box) bool {
	return a.X < b.X+b.W && b.X < a.X+a.W && a.Y < b.Y+b.H && b.Y < a.Y+a.H
}

// TestApart (T3, T4): brothers, floats and lines do not overlap, where no margin
// is below 0 and all is as high as it needs; no float stands above an earlier one.
func TestApart(t *testing.T) {
	r := probe.Rand(25)
	beside := 0
	for range 1000 {
		ns := []api.Node{{Parent: -1}}
		for range r.Next(20) {
			switch r.Next(3) {
			case 0:
				ns = append(ns, api.Node{Kind: api.KindText, Text: strings.Repeat("aa b ", r.Next(8))})
			case 1:
				told := []string{"block float-start", "block float-end", "block float-end clear-start"}[r.Next(3)]
				ns = append(ns, probe.Node(told+" width: "+strconv.Itoa(r.Between(1, 1400))+"; height: "+strconv.Itoa(r.Between(1, 2000))+"; margin-right: 9"))
			default:
				ns = append(ns, probe.Node("block margin-top: 30; margin-bottom: 40; padding-left: 9; height: "+strconv.Itoa(r.Next(50))))
			}
		}
		ps, e := layout.Layout(ns, api.Mode{}, 3000, 100)
		if e != api.OK {
			t.Fatalf("T3: %d", e)
		}
		earlier := 0
		for i, p := range ps {
			if i > 0 && ns[p.Node].Float != api.FloatNone {
				if p.Box.Y < earlier {
					t.Fatalf("T4: %v stands above an earlier one: %s", p, told(ps))
				}
				earlier = p.Box.Y
			}
			for _, q := range ps[1:max(1, i)] {
				if meet(p.Box, q.Box) {
					t.Fatalf("T3, T4: %v meets %v: %s", p, q, told(ps))
				}
				if p.Box.Y < q.Box.Y+q.Box.H && q.Box.Y < p.Box.Y+p.Box.H {
					beside++
				}
			}
		}
	}
	if beside < 1000 {
		t.Errorf("%d stand beside each other", beside)
	}
}

// TestRow (T5): what grows fills the row exactly.
func TestRow(t *testing.T) {
	r := probe.Rand(26)
	for range 500 {
		ns := []api.Node{probe.Node("flex padding-left: 3; align-items: end")}
		ns[0].Parent = -1
		for range r.Between(1, 30) {
			ns = append(ns, probe.Node("block flex-basis: "+strconv.Itoa(r.Next(200))+"; flex-grow: "+strconv.Itoa(r.Between(1, 9))+"; margin-right: "+strconv.Itoa(r.Next(30))))
		}
		ps, e := layout.Layout(ns, api.Mode{}, 8000, 100)
		at := 3
		for i, p := range ps[1:] {
			margin := node.Style(api.Mode{}, ns[1+i]).Margin[api.SideInlineEnd].V
			if p.Box.X != at {
				t.Fatalf("T5: item %d: %s", i, told(ps))
			}
			at += p.Box.W + margin
		}
		if at != 8000 || e != api.OK {
			t.Fatalf("T5: %d, %d: %s", at, e, told(ps))
		}
	}
}

// TestAlike (R4, R5): calls at one time answer alike, and share nothing.
func TestAlike(t *testing.T) {
	r := probe.Rand(27)
	ns := r.Forest(100, 2000)
	want, _ := layout.Layout(ns, api.Mode{Writing: api.ModeVrl}, 4000, 3000)
	want = slices.Clone(want)
	var all sync.WaitGroup
	for range 16 {
		all.Add(1)
		go func() {
			defer all.Done()
			got, _ := layout.Layout(ns, api.Mode{Writing: api.ModeVrl}, 4000, 3000)
			if !slices.Equal(got, want) {
				t.Errorf("R5: %s", told(got))
			}
			clear(got)
		}()
	}
	all.Wait()
}
