// Package used makes a style's lengths to numbers: of styles that may be, in
// rooms of any size.
package used

import (
	"forme/api"
	"forme/length"
)

// Length is a length as a number.
func Length(x api.Length, of int, auto int) int {
	n, _ := length.Used(x, of, auto)
	return n
}

// Between is x, at most most, then at least least.
func Between(x int, least int, most int) int {
	return max(least, min(x, most))
}

// Inline is a size along the lines, between the style's least and greatest one.
func Inline(s api.Style, room int, x int) int {
	return max(0, Between(x, Length(s.Min, room, 0), Length(s.Max, room, api.Most)))
}
