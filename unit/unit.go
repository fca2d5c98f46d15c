// Package unit: whole numbers that stay small (chapter 1).
package unit

import (
	"forme/api"
	"forme/within"
)

// May tells whether x is from -Most to Most.
func May(x int) bool {
	return within.Each(-api.Most, api.Most, x)
}

// Add is the sum of two numbers, if it may be.
func Add(a int, b int) (int, api.Errno) {
	if !May(a) || !May(b) {
		return 0, api.ErrUnitForm
	}
	return small(a + b)
}

// MulDiv is a times b, divided by c, rounded down, if it may be.
func MulDiv(a int, b int, c int) (int, api.Errno) {
	if !May(a) || !May(b) || !May(c) || c < 1 {
		return 0, api.ErrUnitForm
	}
	return small(floor(a*b, c))
}

// Percent is p of a hundred of a number, rounded down.
func Percent(p int, of int) (int, api.Errno) {
	if !May(of) || !within.Each(-api.MaxPercent, api.MaxPercent, p) {
		return 0, api.ErrUnitForm
	}
	return MulDiv(of, p, api.Full)
}

// small refuses a number that may not be.
func small(x int) (int, api.Errno) {
	if !May(x) {
		return 0, api.ErrUnitOver
	}
	return x, api.OK
}

// floor divides by c, which is above 0. Go's own division goes towards 0.
func floor(x int, c int) int {
	q := x / c
	if x%c < 0 {
		q--
	}
	return q
}
