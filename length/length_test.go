package length_test

import (
	"math"
	"strings"
	"testing"

	"forme/api"
	"forme/length"
)

const most = 1 << 30

var (
	may = []struct {
		x    api.Length
		text string
	}{
		{api.Length{}, "auto"},
		{api.Length{Kind: api.LengthPx}, "0"},
		{api.Length{Kind: api.LengthPx, V: 7}, "7"},
		{api.Length{Kind: api.LengthPx, V: -7}, "-7"},
		{api.Length{Kind: api.LengthPx, V: 640}, "640"},
		{api.Length{Kind: api.LengthPx, V: 8191}, "8191"},
		{api.Length{Kind: api.LengthPx, V: -8191}, "-8191"},
		{api.Length{Kind: api.LengthPercent}, "0%"},
		{api.Length{Kind: api.LengthPercent, V: 33}, "33%"},
		{api.Length{Kind: api.LengthPercent, V: -33}, "-33%"},
		{api.Length{Kind: api.LengthPercent, V: 100}, "100%"},
		{api.Length{Kind: api.LengthPercent, V: -100}, "-100%"},
	}
	mayNot = []api.Length{
		{V: 1}, {V: -1}, {Kind: -1}, {Kind: 3}, {Kind: 3, V: 5},
		{Kind: api.LengthPx, V: 8192}, {Kind: api.LengthPx, V: -8192},
		{Kind: api.LengthPercent, V: 101}, {Kind: api.LengthPercent, V: -101},
		{Kind: api.LengthPx, V: math.MaxInt}, {Kind: api.LengthPx, V: math.MinInt},
		{Kind: api.LengthPercent, V: math.MinInt}, {Kind: math.MinInt}, {Kind: math.MaxInt},
	}
)

func TestMayShowParse(t *testing.T) {
	for _, c := range may {
		if !length.May(c.x) {
			t.Errorf("P8.1: %v may be", c.x)
		}
		if got, e := length.Show(c.x); got != c.text || e != api.OK {
			t.Errorf("P8.1: Show(%v): %q, %d", c.x, got, e)
		}
		if got, e := length.Parse(c.text); got != c.x || e != api.OK {
			t.Errorf("P8.1: Parse(%q): %v, %d", c.text, got, e)
		}
	}
	for _, x := range mayNot {
		if length.May(x) {
			t.Errorf("P8.1: %v may not be", x)
		}
		if got, e := length.Show(x); got != "" || e != api.ErrLengthForm {
			t.Errorf("P8.1: Show(%v): %q, %d", x, got, e)
		}
	}
}

func TestParseRefuses(t *testing.T) {
	for _, s := range []string{
		"", "-", "%", "-%", "--7", "-0", "-0%", "00", "07", "-07", "+7", "7px", " 7", "7 ", "7 %", "7%%", "%7", "7-", "1.5", "0x7", "1_0",
		"Auto", "AUTO", "auto ", " auto", "auto%", "aut", "none", "8192", "-8192", "81910", "101%", "-101%", "1000%",
		"18446744073709551623", "18446744073709551616", strings.Repeat("0", 40), strings.Repeat("9", 400), "-" + strings.Repeat("9", 400) + "%",
		"\xff", "7\xff", "\u0667", "\uff17", "\x007", "7\x00",
	} {
		if got, e := length.Parse(s); got != (api.Length{}) || e != api.ErrLengthForm {
			t.Errorf("P8.1: Parse(%q): %v, %d", s, got, e)
		}
	}
}

// TestEach: each length has a text of its own, and each text its length.
func TestEach(t *testing.T) {
	texts := map[string]bool{}
	for kind := api.LengthAuto; kind <= api.LengthPercent; kind++ {
		for v := -8200; v <= 8200; v++ {
			x := api.Length{Kind: kind, V: v}
			if !length.May(x) {
				continue
			}
			s, e := length.Show(x)
			if got, e2 := length.Parse(s); got != x || e != api.OK || e2 != api.OK {
				t.Fatalf("P8.1: %v is %q, that is %v, %d", x, s, got, e2)
			}
			texts[s] = true
		}
	}
	if len(texts) != 1+16383+201 {
		t.Errorf("P8.1: %d texts", len(texts))
	}
}

func TestUsed(t *testing.T) {
	px := func(v int) api.Length { return api.Length{Kind: api.LengthPx, V: v} }
	percent := func(v int) api.Length { return api.Length{Kind: api.LengthPercent, V: v} }
	for i, c := range []struct {
		x        api.Length
		of, auto int
		want     int
		e        api.Errno
	}{
		{api.Length{}, 100, 7, 7, api.OK},
		{api.Length{}, -most, most, most, api.OK},
		{api.Length{}, 1, -most, -most, api.OK},
		{px(-5), 100, 7, -5, api.OK},
		{px(8191), 100, 7, 8191, api.OK},
		{percent(33), 101, 7, 33, api.OK},
		{percent(-33), 101, 7, -34, api.OK},
		{percent(33), -101, 7, -34, api.OK},
		{percent(100), most, 7, most, api.OK},
		{percent(0), most, 7, 0, api.OK},
		{px(5), most + 1, 7, 0, api.ErrLengthForm},
		{px(5), -most - 1, 7, 0, api.ErrLengthForm},
		{px(5), 0, most + 1, 0, api.ErrLengthForm},
		{px(5), 0, -most - 1, 0, api.ErrLengthForm},
		{api.Length{}, math.MinInt, 0, 0, api.ErrLengthForm},
		{percent(5), 0, math.MaxInt, 0, api.ErrLengthForm},
	} {
		if got, e := length.Used(c.x, c.of, c.auto); got != c.want || e != c.e {
			t.Errorf("P8.2: row %d: %d, %d; want %d, %d", i, got, e, c.want, c.e)
		}
	}
	for _, x := range mayNot {
		if got, e := length.Used(x, 10, 10); got != 0 || e != api.ErrLengthForm {
			t.Errorf("P8.2: Used(%v): %d, %d", x, got, e)
		}
	}
}
