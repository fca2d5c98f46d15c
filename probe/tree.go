package probe

import (
	"strconv"
	"strings"

	"forme/api"
	"forme/prop"
)

// Tree is a tree, told a box a line, each kid two spaces deeper than its parent:
// a kind (block, flex, text); behind text its text; behind the others where they
// float, what they clear, and declarations, as in
//
//	block float-start clear-both width: 50%; margin-left: auto
func Tree(told string) []api.Node {
	var ns []api.Node
	var above [api.MaxDepth + 2]int
	for line := range strings.SplitSeq(strings.Trim(told, "\n"), "\n") {
		rest := strings.TrimLeft(line, " ")
		depth := (len(line) - len(rest)) / 2
		n := Node(rest)
		n.Parent = -1
		if depth > 0 {
			n.Parent = above[depth-1]
		}
		above[depth] = len(ns)
		ns = append(ns, n)
	}
	return ns
}

// Node is one box of a tree, told as in Tree, its Parent 0.
func Node(told string) api.Node {
	kind, rest, _ := strings.Cut(told, " ")
	n := api.Node{}
	switch kind {
	case "text":
		return api.Node{Kind: api.KindText, Text: rest}
	case "flex":
		n.Kind = api.KindFlex
	}
	for text := range strings.SplitSeq(rest, ";") {
		n = declare(n, strings.TrimSpace(text))
	}
	return n
}

// declare is a node with what a text tells ahead of a declaration, and that.
func declare(n api.Node, told string) api.Node {
	for {
		word, rest, more := strings.Cut(told, " ")
		switch word {
		case "float-start":
			n.Float = api.FloatStart
		case "float-end":
			n.Float = api.FloatEnd
		case "clear-start":
			n.Clear = api.ClearStart
		case "clear-end":
			n.Clear = api.ClearEnd
		case "clear-both":
			n.Clear = api.ClearBoth
		case "":
			return n
		default:
			name, value, _ := strings.Cut(told, ": ")
			p, e := prop.Parse(name)
			if e != api.OK {
				p = -1
			}
			n.Decls = append(n.Decls, api.Decl{Prop: p, Value: value})
			return n
		}
		if !more {
			return n
		}
		told = rest
	}
}

// Forest is a tree of boxes that may be, of any kinds, made in n tries; its
// lengths are up to a greatest one.
func (r *Rand) Forest(n int, greatest int) []api.Node {
	ns := []api.Node{{Parent: -1, Kind: r.Of(api.KindBlock, api.KindBlock, api.KindFlex), Decls: r.decls(greatest)}}
	depths := []int{0}
	for range r.Next(n) {
		parent := r.Next(len(ns))
		if ns[parent].Kind == api.KindText || depths[parent] == api.MaxDepth || len(ns) == api.MaxNodes {
			continue
		}
		ns = append(ns, r.kid(parent, ns[parent].Kind, greatest))
		depths = append(depths, depths[parent]+1)
	}
	return ns
}

// kid is a box under a parent of a kind.
func (r *Rand) kid(parent int, of int, greatest int) api.Node {
	n := api.Node{Parent: parent, Kind: r.Of(api.KindBlock, api.KindText, api.KindText, api.KindFlex)}
	if n.Kind == api.KindText {
		n.Text = r.text()
		return n
	}
	n.Decls = r.decls(greatest)
	if of == api.KindBlock {
		n.Float = r.Of(api.FloatNone, api.FloatNone, r.Next(3))
		n.Clear = r.Of(api.ClearNone, api.ClearNone, r.Next(4))
	}
	return n
}

// text is some words, and runes that are odd.
func (r *Rand) text() string {
	var s strings.Builder
	for range r.Next(20) {
		s.WriteString([]string{" ", " ", "  ", "a", "bc", "il", "def.", "\u4e2d", "e\u0301", "\xff"}[r.Next(10)])
	}
	return s.String()
}

// decls is some declarations; few of their values are none.
func (r *Rand) decls(greatest int) []api.Decl {
	var ds []api.Decl
	for range r.Of(0, r.Next(6), r.Next(api.MaxDecls+1)) {
		p := r.Next(api.PropWrap + 1)
		ds = append(ds, api.Decl{Prop: p, Value: r.value(p, greatest)})
	}
	return ds
}

// value is one of a property, mostly.
func (r *Rand) value(p int, greatest int) string {
	words := ""
	switch p {
	case api.PropGrow, api.PropShrink:
		return strconv.Itoa(r.Next(4))
	case api.PropTextAlign:
		words = "start end center justify left right"
	case api.PropAlignItems:
		words = "stretch start end center"
	case api.PropJustify:
		words = "start end center space-between"
	case api.PropWrap:
		words = "nowrap wrap wrap"
	default:
		return r.length(greatest)
	}
	all := strings.Fields(words)
	return all[r.Next(len(all))]
}

// length is a length's text.
func (r *Rand) length(greatest int) string {
	switch r.Next(8) {
	case 0:
		return "auto"
	case 1:
		return strconv.Itoa(r.Next(101)) + "%"
	case 2:
		return strconv.Itoa(-r.Next(greatest/8 + 1))
	case 3:
		return strconv.Itoa(r.Next(greatest + 1))
	}
	return strconv.Itoa(r.Next(greatest/8 + 1))
}
