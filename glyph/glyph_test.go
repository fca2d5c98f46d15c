package glyph_test

import (
	"math"
	"testing"

	"forme/glyph"
)

func TestAdvance(t *testing.T) {
	for _, c := range []struct {
		r    rune
		want int
	}{
		{' ', 256},
		{'i', 192}, {'l', 192}, {'.', 192}, {',', 192},
		{'a', 512}, {'I', 512}, {'L', 512}, {'j', 512}, {'k', 512}, {'-', 512}, {'/', 512}, {'h', 512}, {'m', 512}, {'+', 512},
		{0, 512}, {'\t', 512}, {'\n', 512}, {0x1F, 512}, {0x21, 512}, {0xA0, 512},
		{0x02FF, 512}, {0x0300, 0}, {0x0333, 0}, {0x036F, 0}, {0x0370, 512},
		{0x10FF, 512}, {0x1100, 1024}, {0x2003, 1024}, {0x4E2D, 1024},
		{0xD7FF, 1024}, {0xD800, 1024}, {0xDBFF, 1024}, {0xDFFF, 1024}, {0xE000, 1024},
		{0xFFFD, 1024}, {0x10FFFF, 1024}, {0x110000, 1024}, {math.MaxInt32, 1024},
		{-1, 1024}, {math.MinInt32, 1024},
	} {
		if got := glyph.Advance(c.r); got != c.want {
			t.Errorf("P4.1: Advance(%#x): %d, want %d", c.r, got, c.want)
		}
	}
}

func TestSpace(t *testing.T) {
	for _, r := range []rune{0, -1, '\t', '\n', 0x1F, 0x21, 0xA0, 0x2003, 0x3000, 'a', math.MaxInt32, math.MinInt32} {
		if glyph.Space(r) {
			t.Errorf("P4.1: %#x is no space", r)
		}
	}
	if !glyph.Space(0x20) {
		t.Error("P4.1: U+0020 is a space")
	}
}

func TestWidth(t *testing.T) {
	for _, c := range []struct {
		s    string
		want int
	}{
		{"", 0},
		{" ", 256},
		{"a", 512},
		{"ill.", 768},
		{"a b", 1280},
		{"e\u0301", 512},
		{"\u4e2d\u6587", 2048},
		{"\U0001F600", 1024},
		{"\uFFFD", 1024},
		{"\xff", 1024},
		{"a\xe4\xb8b", 3072},
		{"\xed\xa0\x80", 3072},
		{"i\xffi", 1408},
	} {
		if got := glyph.Width(c.s); got != c.want {
			t.Errorf("P4.2: Width(%q): %d, want %d", c.s, got, c.want)
		}
	}
}
