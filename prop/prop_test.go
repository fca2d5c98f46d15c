package prop_test

import (
	"math"
	"strings"
	"testing"

	"forme/api"
	"forme/mode"
	"forme/prop"
)

const row = "inline-size block-size width height min-inline-size max-inline-size margin-inline-start margin-inline-end margin-block-start margin-block-end margin-top margin-right margin-bottom margin-left padding-inline-start padding-inline-end padding-block-start padding-block-end padding-top padding-right padding-bottom padding-left flex-basis flex-grow flex-shrink text-align align-items justify-content flex-wrap"

func TestNameAndParse(t *testing.T) {
	for p, name := range strings.Fields(row) {
		if got, e := prop.Name(p); got != name || e != api.OK {
			t.Errorf("P9.1: Name(%d): %q, %d; want %q", p, got, e, name)
		}
		if got, e := prop.Parse(name); got != p || e != api.OK {
			t.Errorf("P9.1: Parse(%q): %d, %d; want %d", name, got, e, p)
		}
	}
	for _, p := range []int{-1, 29, math.MinInt, math.MaxInt} {
		if got, e := prop.Name(p); got != "" || e != api.ErrPropForm {
			t.Errorf("P9.1: Name(%d): %q, %d", p, got, e)
		}
	}
	for _, s := range []string{"", "Width", "width ", " width", "widths", "margin", "flex", "flex-wrap ", "margin-top-left", "\xff", row} {
		if got, e := prop.Parse(s); got != 0 || e != api.ErrPropForm {
			t.Errorf("P9.1: Parse(%q): %d, %d", s, got, e)
		}
	}
}

// physical holds, by mode, what width, height, and the margins of top, right,
// bottom, left come to.
var physical = [6][6]string{
	{"inline-size", "block-size", "block-start", "inline-end", "block-end", "inline-start"},
	{"inline-size", "block-size", "block-start", "inline-start", "block-end", "inline-end"},
	{"block-size", "inline-size", "inline-start", "block-start", "inline-end", "block-end"},
	{"block-size", "inline-size", "inline-end", "block-start", "inline-start", "block-end"},
	{"block-size", "inline-size", "inline-start", "block-end", "inline-end", "block-start"},
	{"block-size", "inline-size", "inline-end", "block-end", "inline-start", "block-start"},
}

func mapped(i int, name string) string {
	for k, edge := range []string{"top", "right", "bottom", "left"} {
		if of, ok := strings.CutSuffix(name, "-"+edge); ok {
			return of + "-" + physical[i][2+k]
		}
	}
	switch name {
	case "width":
		return physical[i][0]
	case "height":
		return physical[i][1]
	}
	return name
}

func TestMap(t *testing.T) {
	for i, m := range mode.All() {
		for p, name := range strings.Fields(row) {
			got, e := prop.Map(m, p)
			told, _ := prop.Name(got)
			if want := mapped(i, name); told != want || e != api.OK {
				t.Errorf("P9.2: Map(%v, %s): %s, %d; want %s", m, name, told, e, want)
			}
		}
		for _, p := range []int{-1, 29, math.MinInt, math.MaxInt} {
			if got, e := prop.Map(m, p); got != 0 || e != api.ErrPropForm {
				t.Errorf("P9.2: Map(%v, %d): %d, %d", m, p, got, e)
			}
		}
	}
	for _, m := range []api.Mode{{Writing: 3}, {Writing: -1}, {Dir: 2}, {Dir: -1}} {
		for p := range 29 {
			if got, e := prop.Map(m, p); got != 0 || e != api.ErrPropForm {
				t.Errorf("P9.2: Map(%v, %d): %d, %d", m, p, got, e)
			}
		}
	}
}
