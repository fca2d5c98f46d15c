// Package node: what layers ask of the nodes of a tree that may be.
package node

import (
	"forme/api"
	"forme/cascade"
	"forme/words"
)

// Kids is the numbers of a node's kids, in their row.
func Kids(ns []api.Node, at int) []int {
	var kids []int
	for i, n := range ns {
		if n.Parent == at {
			kids = append(kids, i)
		}
	}
	return kids
}

// Style is what a node's declarations come to.
func Style(m api.Mode, n api.Node) api.Style {
	s, _ := cascade.Apply(m, n.Decls)
	return s
}

// Words is a node's words.
func Words(n api.Node) []api.Word {
	ws, _ := words.Split(n.Text)
	return ws
}
