package words_test

import (
	"math"
	"slices"
	"strings"
	"testing"
	"unsafe"

	"forme/api"
	"forme/glyph"
	"forme/probe"
	"forme/words"
)

func TestSplit(t *testing.T) {
	for _, c := range []struct {
		s    string
		want []api.Word
	}{
		{"", nil},
		{"   ", nil},
		{"a", []api.Word{{Text: "a", Advance: 512}}},
		{"a ", []api.Word{{Text: "a", Advance: 512, Spaces: 1}}},
		{" a", []api.Word{{Text: "a", Advance: 512}}},
		{"   il  b    ", []api.Word{{Text: "il", Advance: 384, Spaces: 2}, {Text: "b", Advance: 512, Spaces: 4}}},
		{"a\tb\nc d", []api.Word{{Text: "a\tb\nc", Advance: 2560, Spaces: 1}, {Text: "d", Advance: 512}}},
		{"e\u0301 \u4e2d", []api.Word{{Text: "e\u0301", Advance: 512, Spaces: 1}, {Text: "\u4e2d", Advance: 1024}}},
		{"\u0301 x", []api.Word{{Text: "\u0301", Spaces: 1}, {Text: "x", Advance: 512}}},
		{"\xff\xe4 \xb8", []api.Word{{Text: "\xff\xe4", Advance: 2048, Spaces: 1}, {Text: "\xb8", Advance: 1024}}},
		{"a\u00a0b", []api.Word{{Text: "a\u00a0b", Advance: 1536}}},
		{strings.Repeat("x", 80), []api.Word{{Text: strings.Repeat("x", 80), Advance: 80 * 512}}},
		{strings.Repeat(" ", 79) + "x", []api.Word{{Text: "x", Advance: 512}}},
	} {
		if got, e := words.Split(c.s); !slices.Equal(got, c.want) || e != api.OK {
			t.Errorf("P5.1: Split(%q): %v, %d; want %v", c.s, got, e, c.want)
		}
	}
}

func TestSplitRefuses(t *testing.T) {
	for _, s := range []string{strings.Repeat("x", 81), strings.Repeat(" ", 81), strings.Repeat("\u4e2d", 27)} {
		if got, e := words.Split(s); len(got) != 0 || e != api.ErrWordsForm {
			t.Errorf("P5.1: %d bytes: %v, %d", len(s), got, e)
		}
	}
	if ws, e := words.Split(strings.Repeat("x ", 40)); len(ws) != 40 || e != api.OK {
		t.Errorf("P5.1: %d words, %d", len(ws), e)
	}
}

// TestSplitTold: words and spaces, told again, are the text.
func TestSplitTold(t *testing.T) {
	r := probe.Rand(5)
	for range 2000 {
		var s strings.Builder
		for range r.Next(40) {
			s.WriteString([]string{" ", " ", "a", "i", "\xff", "\u4e2d"}[r.Next(6)])
		}
		text := s.String()
		if len(text) > 80 {
			continue
		}
		ws, e := words.Split(text)
		if e != api.OK {
			t.Fatalf("P5.1: Split(%q): %d", text, e)
		}
		told := ""
		for i, w := range ws {
			if w.Text == "" || strings.Contains(w.Text, " ") || w.Advance != glyph.Width(w.Text) || w.Spaces == 0 && i < len(ws)-1 {
				t.Fatalf("P5.1: Split(%q): %v", text, ws)
			}
			told += w.Text + strings.Repeat(" ", w.Spaces)
		}
		if told != strings.TrimLeft(text, " ") {
			t.Fatalf("P5.1: Split(%q): %v", text, ws)
		}
	}
}

// TestOwn (R4): words are in memory of their own.
func TestOwn(t *testing.T) {
	s := strings.Repeat("ab ", 3)
	ws, _ := words.Split(s)
	for i, w := range ws {
		if unsafe.StringData(w.Text) == unsafe.StringData(s[3*i:]) {
			t.Errorf("R4: word %d is a piece of the text", i)
		}
	}
}

func TestLongestAndTotal(t *testing.T) {
	of := func(advances ...int) []api.Word {
		var ws []api.Word
		for _, a := range advances {
			ws = append(ws, api.Word{Advance: a, Spaces: 7})
		}
		return ws
	}
	for i, c := range []struct {
		ws             []api.Word
		longest, total int
	}{
		{nil, 0, 0},
		{[]api.Word{}, 0, 0},
		{of(0), 0, 0},
		{of(512), 512, 512},
		{of(512, 1024, 192), 1024, 512 + 1024 + 192 + 2*256},
		{of(0, 0, 0), 0, 512},
		{of(-5), 0, -5},
		{of(-5, -9), 0, 242},
		{of(-5, 3), 3, 254},
		{of(math.MaxInt), math.MaxInt, math.MaxInt},
	} {
		if got := words.Longest(c.ws); got != c.longest {
			t.Errorf("P5.2: row %d: Longest: %d, want %d", i, got, c.longest)
		}
		if got := words.Total(c.ws); got != c.total {
			t.Errorf("P5.2: row %d: Total: %d, want %d", i, got, c.total)
		}
	}
}
