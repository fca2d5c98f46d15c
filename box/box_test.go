package box_test

import (
	"math"
	"slices"
	"strconv"
	"strings"
	"testing"

	"forme/api"
	"forme/box"
	"forme/mode"
	"forme/probe"
)

const room = 1 << 22

var plain = api.Mode{}

// told is pieces, each as `node line: at inline, at block, inline x block`.
func told(frags []api.Frag) string {
	var s strings.Builder
	for _, f := range frags {
		r := f.Rect
		for i, x := range []int{f.Node, f.Line, r.At.Inline, r.At.Block, r.Size.Inline, r.Size.Block} {
			s.WriteString([]string{"\n", " ", ": ", ", ", ", ", " x "}[i] + strconv.Itoa(x))
		}
	}
	return s.String()
}

// laid is a tree, how long its first node is inside, and its pieces.
type laid struct {
	name  string
	tree  string
	inner int
	want  string
}

func check(t *testing.T, rows []laid) {
	t.Helper()
	for _, c := range rows {
		ns := probe.Tree(c.tree)
		size, frags, e := box.Lay(ns, plain, 0, c.inner)
		if got := told(frags); got != c.want || e != api.OK {
			t.Errorf("%s: %d%s\nwant%s", c.name, e, got, c.want)
		} else if size != frags[0].Rect.Size {
			t.Errorf("%s: %v", c.name, size)
		}
	}
}

func TestItself(t *testing.T) {
	check(t, []laid{
		{"P22.1: nothing inside", "block", 100, `
0 -1: 0, 0, 100 x 0`},
		{"P22.1: nothing inside a row", "flex", 100, `
0 -1: 0, 0, 100 x 0`},
		{"P22.1: no room", "flex", 0, `
0 -1: 0, 0, 0 x 0`},
		{"P22.1: paddings", "block padding-left: 1; padding-right: 2; padding-top: 4; padding-bottom: 8", 100, `
0 -1: 0, 0, 103 x 12`},
		{"P22.1: its own inline-size, its margins do not matter", "block width: 50; margin-left: 7; margin-top: 9; min-inline-size: 300", 100, `
0 -1: 0, 0, 100 x 0`},
		{"P22.1: Block high", "block block-size: 50; padding-top: 4", 100, `
0 -1: 0, 0, 100 x 54`},
		{"P22.1: Block 0, something inside", `
block block-size: 0; padding-top: 4; padding-left: 3
  text a
`, 100, `
0 -1: 0, 0, 103 x 4
1 0: 3, 4, 512 x 640`},
		{"P22.1: a row Block high", `
flex block-size: 1000; padding-bottom: 4; padding-left: 3
  text a
`, 600, `
0 -1: 0, 0, 603 x 1004
1 0: 3, 0, 512 x 640`},
	})
}

func TestTexts(t *testing.T) {
	check(t, []laid{
		{"P22.2: a piece a line", `
block padding-left: 10; padding-top: 20
  text aa b ccc
  text
  text d
`, 1800, `
0 -1: 0, 0, 1810 x 1940
1 0: 10, 20, 1792 x 640
1 1: 10, 660, 1536 x 640
3 0: 10, 1300, 512 x 640`},
		{"P22.2: Align", `
block text-align: end
  text aa b ccc
`, 1800, `
0 -1: 0, 0, 1800 x 1280
1 0: 8, 0, 1792 x 640
1 1: 264, 640, 1536 x 640`},
		{"P22.2: Align, of the block that it is in", `
block text-align: end
  block text-align: center
    text a
`, 1000, `
0 -1: 0, 0, 1000 x 640
1 -1: 0, 0, 1000 x 640
2 0: 244, 0, 512 x 640`},
		{"P22.2: the margin that waits is added ahead of a text", `
block
  block margin-bottom: 100; margin-top: 30
  text a
  text b
`, 1000, `
0 -1: 0, 0, 1000 x 1410
1 -1: 0, 30, 1000 x 0
2 0: 0, 130, 512 x 640
3 0: 0, 770, 512 x 640`},
		{"P22.2: a text stands at least at 0", `
block
  block margin-bottom: -100; height: 40
  text a
`, 1000, `
0 -1: 0, 0, 1000 x 640
1 -1: 0, 0, 1000 x 40
2 0: 0, 0, 512 x 640`},
		{"P22.2: a text without words is nothing at all", `
block
  block margin-bottom: 100
  text   
  block margin-top: 70
`, 1000, `
0 -1: 0, 0, 1000 x 100
1 -1: 0, 0, 1000 x 0
3 -1: 0, 100, 1000 x 0`},
		{"P22.2: one without words, ahead of a margin below 0", `
block
  block margin-bottom: -100; height: 40
  text
  block height: 90; margin-top: 80
`, 1000, `
0 -1: 0, 0, 1000 x 110
1 -1: 0, 0, 1000 x 40
3 -1: 0, 20, 1000 x 90`},
	})
}

func TestBlocks(t *testing.T) {
	check(t, []laid{
		{"P22.2: margins collapse between brothers, not with the parent", `
block
  block margin-top: 30; height: 10; margin-bottom: 40
  block margin-top: 50; height: 10; margin-bottom: 40
  block margin-top: 20; height: 10; margin-bottom: 60
`, 100, `
0 -1: 0, 0, 100 x 210
1 -1: 0, 30, 100 x 10
2 -1: 0, 90, 100 x 10
3 -1: 0, 140, 100 x 10`},
		{"P22.2: margins below 0", `
block
  block height: 100; margin-bottom: -30
  block margin-top: 20; height: 10; margin-bottom: -30
  block margin-top: -50; height: 10; margin-bottom: -500
`, 100, `
0 -1: 0, 0, 100 x 0
1 -1: 0, 0, 100 x 100
2 -1: 0, 90, 100 x 10
3 -1: 0, 50, 100 x 10`},
		{"P22.2: at least 0", `
block
  block margin-top: -30; height: 10; margin-bottom: auto
  block margin-top: auto; height: 10
`, 100, `
0 -1: 0, 0, 100 x 20
1 -1: 0, 0, 100 x 10
2 -1: 0, 10, 100 x 10`},
		{"P22.2: a last margin below 0", `
block
  block height: 100; margin-bottom: -30
`, 100, `
0 -1: 0, 0, 100 x 70
1 -1: 0, 0, 100 x 100`},
		{"P22.2: layer 14's Block, paddings", `
block padding-left: 5; padding-top: 6
  block width: 50%; margin-left: auto; padding-left: 7; padding-top: 8; height: 9
    block
  block margin-left: 10; margin-right: -20
    flex width: 30; margin-left: auto; margin-right: auto; height: 4
`, 100, `
0 -1: 0, 0, 105 x 27
1 -1: 48, 6, 57 x 17
2 -1: 55, 14, 50 x 0
3 -1: 15, 23, 110 x 4
4 -1: 55, 23, 30 x 4`},
		{"P22.2: below 0 rooms are none", `
block
  block margin-left: 300
    block padding-right: 20
`, 100, `
0 -1: 0, 0, 100 x 0
1 -1: 300, 0, 0 x 0
2 -1: 300, 0, 20 x 0`},
	})
}

func TestFloats(t *testing.T) {
	check(t, []laid{
		{"P22.2: lines beside floats", `
block
  block float-start width: 300; height: 700
  text a b c
  block float-end width: 100; height: 10
  text d
`, 1580, `
0 -1: 0, 0, 1580 x 1920
1 -1: 0, 0, 300 x 700
2 0: 300, 0, 1280 x 640
2 1: 300, 640, 512 x 640
3 -1: 1480, 1280, 100 x 10
4 0: 0, 1280, 512 x 640`},
		{"P22.2: a float stands behind its margins", `
block padding-left: 5; padding-top: 6
  block float-start width: 30; height: 20; margin-left: 1; margin-top: 2; margin-right: 4; margin-bottom: 8; padding-left: 16; padding-top: 32
  block float-start width: 10; height: 20
  block float-end width: 10; height: 20; margin-right: -3; margin-top: auto
`, 200, `
0 -1: 0, 0, 205 x 68
1 -1: 6, 8, 46 x 52
2 -1: 56, 6, 10 x 20
3 -1: 198, 6, 10 x 20`},
		{"P22.2: margins that leave nothing of it", `
block
  block float-start width: 30; height: 20; margin-left: -50; margin-top: -60
  block float-start width: 10; height: 20
`, 200, `
0 -1: 0, 0, 200 x 20
1 -1: -50, -60, 30 x 20
2 -1: 0, 0, 10 x 20`},
		{"P22.2: as long as it needs, its room, at most", `
block
  block float-start padding-left: 100; margin-right: 50
    text aa b
  block float-start
    text ii
`, 1700, `
0 -1: 0, 0, 1700 x 1920
1 -1: 0, 0, 1650 x 1280
2 0: 100, 0, 1024 x 640
2 1: 100, 640, 512 x 640
3 -1: 0, 1280, 384 x 640
4 0: 0, 1280, 384 x 640`},
		{"P22.2: no more than it needs, no less", `
block
  block float-start
    text aa b
  block float-start margin-left: -2000; margin-right: -2000
    text c
`, 2500, `
0 -1: 0, 0, 2500 x 640
1 -1: 0, 0, 1792 x 640
2 0: 0, 0, 1792 x 640
3 -1: -208, 0, 512 x 640
4 0: -208, 0, 512 x 640`},
		{"P22.2: its room is less than it needs", `
block
  block float-start
    text aaaa b
`, 700, `
0 -1: 0, 0, 700 x 1280
1 -1: 0, 0, 2048 x 1280
2 0: 0, 0, 2048 x 640
2 1: 0, 640, 512 x 640`},
		{"P22.2: layer 13's Inline", `
block
  block float-start width: 50%; height: 1
  block float-start width: 50%; max-inline-size: 10%; height: 1
  block float-start min-inline-size: 20%; height: 1
  block float-start width: 100; max-inline-size: 30; height: 1
`, 201, `
0 -1: 0, 0, 201 x 1
1 -1: 0, 0, 100 x 1
2 -1: 100, 0, 20 x 1
3 -1: 120, 0, 40 x 1
4 -1: 160, 0, 30 x 1`},
		{"P22.2: from where it is with the margin that waits; that still waits", `
block
  block height: 10; margin-bottom: 40
  block float-start width: 10; height: 20; clear-both
  block float-end width: 10; height: 5
  block margin-top: 70; height: 1
`, 100, `
0 -1: 0, 0, 100 x 81
1 -1: 0, 0, 100 x 10
2 -1: 0, 50, 10 x 20
3 -1: 90, 50, 10 x 5
4 -1: 0, 80, 100 x 1`},
		{"P22.2: a float where the margin that waits is below 0", `
block
  block height: 10; margin-bottom: -40
  block float-start width: 10; height: 20
`, 100, `
0 -1: 0, 0, 100 x 20
1 -1: 0, 0, 100 x 10
2 -1: 0, 0, 10 x 20`},
		{"P22.2: a float clears", `
block
  block float-start width: 10; height: 20
  block float-end width: 10; height: 50
  block float-start clear-end width: 10; height: 5
  block float-start clear-start width: 10; height: 5
`, 100, `
0 -1: 0, 0, 100 x 60
1 -1: 0, 0, 10 x 20
2 -1: 90, 0, 10 x 50
3 -1: 0, 50, 10 x 5
4 -1: 0, 55, 10 x 5`},
		{"P22.2: blocks stand below all floats, whatever they clear", `
block
  block height: 10; margin-bottom: 5
  block float-end width: 10; height: 50; margin-bottom: 7
  block height: 10; margin-top: 60; margin-bottom: 3
  flex clear-start height: 10
`, 100, `
0 -1: 0, 0, 100 x 95
1 -1: 0, 0, 100 x 10
2 -1: 90, 15, 10 x 50
3 -1: 0, 72, 100 x 10
4 -1: 0, 85, 100 x 10`},
		{"P22.2: as high as its floats, with their margins", `
block padding-bottom: 3
  text a
  block float-end width: 10; height: 50; margin-bottom: 7
`, 600, `
0 -1: 0, 0, 600 x 700
1 0: 0, 0, 512 x 640
2 -1: 590, 640, 10 x 50`},
		{"P22.2: floats do not leave the block that they are in", `
block
  block
    block float-start width: 10; height: 50
  text a
`, 600, `
0 -1: 0, 0, 600 x 690
1 -1: 0, 0, 600 x 50
2 -1: 0, 0, 10 x 50
3 0: 0, 50, 512 x 640`},
		{"P22.2: floats go on below", `
block
  block float-start width: 60; height: 20
  block float-end width: 50; height: 10
  text i
`, 100, `
0 -1: 0, 0, 100 x 670
1 -1: 0, 0, 60 x 20
2 -1: 50, 20, 50 x 10
3 0: 0, 30, 192 x 640`},
	})
}

func TestRows(t *testing.T) {
	check(t, []laid{
		{"P22.3: texts", `
flex padding-left: 5; padding-top: 6
  text aa b
  text
  text c
`, 3000, `
0 -1: 0, 0, 3005 x 646
1 0: 5, 6, 1792 x 640
3 0: 1797, 6, 512 x 640`},
		{"P22.3: texts shrink by their Total", `
flex text-align: end
  text aa b
  text c c c
`, 1920, `
0 -1: 0, 0, 1920 x 1920
1 0: 0, 0, 1024 x 640
1 1: 0, 640, 512 x 640
2 0: 896, 0, 512 x 640
2 1: 896, 640, 512 x 640
2 2: 896, 1280, 512 x 640`},
		{"P22.3: Base", `
flex
  block flex-basis: 100; width: 200; height: 1
  block width: 20%; height: 1
  block flex-basis: 10%; height: 1
  block height: 1
    text a ii
`, 3000, `
0 -1: 0, 0, 3000 x 1
1 -1: 0, 0, 100 x 1
2 -1: 100, 0, 600 x 1
3 -1: 700, 0, 300 x 1
4 -1: 1000, 0, 1152 x 1
5 0: 1000, 0, 1152 x 640`},
		{"P22.3: Grow, Shrink, Min, Max, Extra", `
flex
  block width: 10; flex-grow: 1; height: 1; max-inline-size: 5%
  block width: 10; flex-grow: 1; height: 1; padding-left: 5; margin-left: 7; margin-right: auto
  block width: 10; height: 1; min-inline-size: 15%
`, 100, `
0 -1: 0, 0, 100 x 1
1 -1: 0, 0, 5 x 1
2 -1: 12, 0, 73 x 1
3 -1: 85, 0, 15 x 1`},
		{"P22.3: Shrink", `
flex
  block width: 100; height: 1
  block width: 100; height: 1; flex-shrink: 3
  block width: 100; height: 1; flex-shrink: 0
`, 240, `
0 -1: 0, 0, 240 x 1
1 -1: 0, 0, 85 x 1
2 -1: 85, 0, 55 x 1
3 -1: 140, 0, 100 x 1`},
		{"P22.3: Just", `
flex justify-content: center
  block width: 10; height: 1
  block width: 10; height: 1; margin-left: 4; margin-right: 5; padding-left: 2
`, 100, `
0 -1: 0, 0, 100 x 1
1 -1: 34, 0, 10 x 1
2 -1: 48, 0, 12 x 1`},
		{"P22.3: space between", `
flex justify-content: space-between; padding-left: 3
  block width: 10; height: 1
  text
  block width: 20; height: 1
`, 101, `
0 -1: 0, 0, 104 x 1
1 -1: 3, 0, 10 x 1
3 -1: 84, 0, 20 x 1`},
		{"P22.3: wrap", `
flex flex-wrap: wrap; justify-content: end
  block width: 60; height: 10; margin-bottom: 3
  block width: 40; height: 5
  block width: 1; height: 7
  block width: 150; height: 8
`, 100, `
0 -1: 0, 0, 100 x 28
1 -1: 0, 0, 60 x 10
2 -1: 60, 0, 40 x 5
3 -1: 99, 13, 1 x 7
4 -1: 0, 20, 100 x 8`},
		{"P22.3: a line is as high as its highest; ItemStretch", `
flex
  block width: 10; margin-top: 3; margin-bottom: 4
    block height: 2
  block width: 10; height: 30
  flex width: 10; padding-top: 5
    block width: 3
  text ii
`, 1000, `
0 -1: 0, 0, 1000 x 640
1 -1: 0, 3, 10 x 633
2 -1: 0, 3, 10 x 2
3 -1: 10, 0, 10 x 30
4 -1: 20, 0, 10 x 640
5 -1: 20, 5, 3 x 0
6 0: 30, 0, 384 x 640`},
		{"P22.3: ItemStretch, with margins that are more than the line", `
flex height: 5
  block width: 10; margin-top: 3; margin-bottom: 4
    block height: 20
  block width: 10; margin-top: -3
`, 100, `
0 -1: 0, 0, 100 x 5
1 -1: 0, 3, 10 x 0
2 -1: 0, 3, 10 x 20
3 -1: 10, -3, 10 x 8`},
		{"P22.3: ItemEnd", `
flex align-items: end
  block width: 10; height: 30; margin-bottom: 2
  block width: 10; margin-top: 3; margin-bottom: 4
    block height: 2
  text i
`, 300, `
0 -1: 0, 0, 300 x 640
1 -1: 0, 608, 10 x 30
2 -1: 10, 634, 10 x 2
3 -1: 10, 634, 10 x 2
4 0: 20, 0, 192 x 640`},
		{"P22.3: ItemCenter", `
flex align-items: center; height: 31
  block width: 10; height: 20
  block width: 10; height: 50; margin-top: 2
  block width: 10
`, 300, `
0 -1: 0, 0, 300 x 31
1 -1: 0, 5, 10 x 20
2 -1: 10, -9, 10 x 50
3 -1: 20, 15, 10 x 0`},
		{"P22.3: ItemStart", `
flex align-items: start; height: 31
  block width: 10
    block height: 2
  block width: 10; height: 50; margin-top: 2
`, 300, `
0 -1: 0, 0, 300 x 31
1 -1: 0, 0, 10 x 2
2 -1: 0, 0, 10 x 2
3 -1: 10, 2, 10 x 50`},
		{"P22.3: with wrap a line is as high as its highest, whatever Block", `
flex flex-wrap: wrap; height: 31; align-items: end
  block width: 10; height: 8
  block width: 10; height: 5
`, 300, `
0 -1: 0, 0, 300 x 31
1 -1: 0, 0, 10 x 8
2 -1: 10, 3, 10 x 5`},
		{"P22.3: a line is at least 0 high", `
flex
  block width: 10; height: 8; margin-top: -20
  block width: 10; margin-top: -20
`, 300, `
0 -1: 0, 0, 300 x 0
1 -1: 0, -20, 10 x 8
2 -1: 10, -20, 10 x 20`},
		{"P22.3: how high: all lines, not what is beyond the last", `
block
  flex flex-wrap: wrap; width: 10
    block width: 10; height: 8; margin-top: -20
    block width: 10; height: 5
  block height: 1
`, 300, `
0 -1: 0, 0, 300 x 6
1 -1: 0, 0, 10 x 5
2 -1: 0, -20, 10 x 8
3 -1: 0, 0, 10 x 5
4 -1: 0, 5, 300 x 1`},
	})
}

// TestRow: pieces are told box by box, each ahead of what is inside, in whichever
// row the nodes are numbered.
func TestWalk(t *testing.T) {
	ns := []api.Node{{Parent: -1}, {Parent: 0}, {Parent: 0, Kind: api.KindFlex}, {Parent: 1}, {Parent: 2}, {Parent: 1}, {Parent: 4, Kind: api.KindText, Text: "a b"}}
	_, frags, e := box.Lay(ns, plain, 0, 600)
	var row []int
	for _, f := range frags {
		row = append(row, f.Node)
	}
	if !slices.Equal(row, []int{0, 1, 3, 5, 2, 4, 6, 6}) || e != api.OK {
		t.Errorf("P22.1: %v, %d", row, e)
	}
	_, frags, e = box.Lay(ns, plain, 4, 600)
	if told(frags) != "\n4 -1: 0, 0, 600 x 1280\n6 0: 0, 0, 512 x 640\n6 1: 0, 640, 512 x 640" || e != api.OK {
		t.Errorf("P22.1: %s, %d", told(frags), e)
	}
}

func TestModes(t *testing.T) {
	ns := probe.Tree(`
block width: 10; height: 20; padding-top: 1; padding-left: 2; padding-right: 4; padding-bottom: 8`)
	for i, m := range mode.All() {
		want := api.Size{Inline: 106, Block: 29}
		if i >= 2 {
			want = api.Size{Inline: 109, Block: 16}
		}
		if size, _, e := box.Lay(ns, m, 0, 100); size != want || e != api.OK {
			t.Errorf("P22.1: %v: %v, %d", m, size, e)
		}
	}
}

func TestLayRefuses(t *testing.T) {
	refused := func(ns []api.Node, m api.Mode, at, inner int) {
		t.Helper()
		if size, frags, e := box.Lay(ns, m, at, inner); size != (api.Size{}) || len(frags) != 0 || e != api.ErrBoxForm {
			t.Errorf("P22.1: Lay(%v, %v, %d, %d): %v, %v, %d", ns, m, at, inner, size, frags, e)
		}
	}
	ok := probe.Tree("block\n  text a")
	refused(nil, plain, 0, 100)
	refused([]api.Node{{}}, plain, 0, 100)
	refused([]api.Node{{Parent: -1, Decls: []api.Decl{{Prop: 29}}}}, plain, 0, 100)
	for _, m := range []api.Mode{{Writing: 3}, {Writing: -1}, {Dir: 2}, {Dir: -1}} {
		refused(ok, m, 0, 100)
	}
	for _, at := range []int{-1, 1, 2, math.MinInt, math.MaxInt} {
		refused(ok, plain, at, 100)
	}
	for _, inner := range []int{-1, room + 1, math.MinInt, math.MaxInt} {
		refused(ok, plain, 0, inner)
	}
	if size, _, e := box.Lay(ok, plain, 0, room); size != (api.Size{Inline: room, Block: 640}) || e != api.OK {
		t.Errorf("P22.1: %v, %d", size, e)
	}
}

// TestRoom: in the longest room kids may be longer than it; they are laid.
func TestRoom(t *testing.T) {
	ns := probe.Tree(`
block
  block margin-left: -8191; margin-right: -8191
    block
    block float-end width: 100%; padding-left: 10; height: 4
    flex flex-wrap: wrap; justify-content: end
      block flex-basis: 100%; padding-left: 10
      block width: 50%; flex-grow: 1; flex-shrink: 0; height: 5
    text a`)
	_, frags, e := box.Lay(ns, plain, 0, room)
	want := strings.ReplaceAll(`
0 -1: 0, 0, R x 649
1 -1: -8191, 0, L x 649
2 -1: -8191, 0, L x 0
3 -1: -8201, 0, M x 4
4 -1: -8191, 4, L x 5
5 -1: -8191, 4, L x 0
6 -1: -8191, 4, L x 5
7 0: -8191, 9, 512 x 640`, "R", strconv.Itoa(room))
	want = strings.ReplaceAll(want, "L", strconv.Itoa(room+2*8191))
	want = strings.ReplaceAll(want, "M", strconv.Itoa(room+2*8191+10))
	if told(frags) != want || e != api.OK {
		t.Errorf("P22.4: %d%s\nwant%s", e, told(frags), want)
	}
}
