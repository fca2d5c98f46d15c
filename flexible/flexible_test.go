package flexible_test

import (
	"math"
	"math/big"
	"slices"
	"testing"

	"forme/api"
	"forme/flexible"
	"forme/probe"
)

const most, room = 1 << 30, 1 << 22

func item(base, grow, shrink int) api.Item {
	return api.Item{Base: base, Max: most, Grow: grow, Shrink: shrink}
}

func between(base, min, max, grow, shrink, extra int) api.Item {
	return api.Item{Base: base, Min: min, Max: max, Grow: grow, Shrink: shrink, Extra: extra}
}

func TestResolve(t *testing.T) {
	for i, c := range []struct {
		is   []api.Item
		room int
		want []int
	}{
		{nil, 100, nil},
		// Growing, by Grow; what does not go up is nobody's but by the row.
		{[]api.Item{item(10, 1, 0), item(20, 1, 0)}, 100, []int{45, 55}},
		{[]api.Item{item(10, 1, 0), item(20, 3, 0)}, 100, []int{27, 73}},
		{[]api.Item{item(0, 1, 0), item(0, 1, 0), item(0, 1, 0)}, 100, []int{33, 33, 34}},
		{[]api.Item{item(0, 1, 0), item(0, 1, 0), item(0, 1, 0)}, 101, []int{33, 34, 34}},
		{[]api.Item{item(10, 0, 5), item(20, 2, 5)}, 100, []int{10, 90}},
		{[]api.Item{item(10, 0, 5), item(20, 0, 5)}, 100, []int{10, 20}},
		{[]api.Item{between(10, 0, most, 1, 1, 7), between(20, 0, most, 1, 1, -7)}, 100, []int{45, 55}},
		{[]api.Item{between(10, 0, most, 1, 1, 7), between(20, 0, most, 1, 1, 3)}, 100, []int{40, 50}},
		// Neither: all is as it is wished; that shrinks by nothing.
		{[]api.Item{item(40, 1, 1), item(60, 1, 1)}, 100, []int{40, 60}},
		// Shrinking, by Shrink times Base.
		{[]api.Item{item(100, 0, 1), item(100, 0, 1)}, 100, []int{50, 50}},
		{[]api.Item{item(100, 0, 1), item(200, 0, 1)}, 240, []int{80, 160}},
		{[]api.Item{item(100, 9, 3), item(300, 9, 1)}, 340, []int{70, 270}},
		{[]api.Item{item(100, 0, 1), item(100, 0, 1), item(100, 0, 1)}, 100, []int{34, 33, 33}},
		{[]api.Item{item(100, 1, 0), item(200, 1, 1)}, 150, []int{100, 50}},
		{[]api.Item{item(100, 1, 0), item(200, 1, 0)}, 150, []int{100, 200}},
		{[]api.Item{item(100, 1, 0), item(200, 1, 1)}, 50, []int{100, 0}},
		{[]api.Item{item(0, 0, 1), item(0, 0, 1)}, 0, []int{0, 0}},
		{[]api.Item{between(0, 0, most, 0, 1, 50), between(0, 0, most, 0, 1, 60)}, 100, []int{0, 0}},
		{[]api.Item{between(100, 0, most, 0, 1, 20), between(100, 0, most, 0, 1, -40)}, 100, []int{60, 60}},
		// Frozen from the beginning: a Base above its greatest one can't grow, one
		// below its least one not shrink.
		{[]api.Item{between(50, 0, 30, 1, 1, 0), item(10, 1, 1)}, 100, []int{30, 70}},
		{[]api.Item{between(50, 60, most, 1, 1, 0), item(90, 1, 1)}, 100, []int{60, 40}},
		{[]api.Item{between(50, 60, most, 1, 1, 0), item(10, 1, 1)}, 100, []int{70, 30}},
		{[]api.Item{between(150, 0, 120, 1, 1, 0), item(50, 1, 1)}, 100, []int{75, 25}},
		{[]api.Item{between(16, 0, most, 1, 1, 0), between(25, 0, 12, 0, 0, 0), between(25, 0, most, 1, 1, 0), between(28, 19, 27, 3, 2, 0)}, 57, []int{11, 12, 15, 19}},
		{[]api.Item{between(3, 11, most, 1, 1, 0), between(8, 0, 27, 2, 1, 0), between(21, 0, 16, 0, 1, 0), between(26, 0, 1, 1, 1, 0)}, 24, []int{11, 4, 8, 1}},
		{[]api.Item{between(0, 6, most, 0, 0, 0), between(11, 0, 13, 1, 1, 0), between(8, 0, most, 1, 1, 0), between(5, 0, 28, 2, 2, 0)}, 58, []int{6, 13, 16, 23}},
		{[]api.Item{between(7, 0, 3, 1, 1, 0), between(20, 0, most, 1, 3, 0), between(20, 0, most, 1, 3, 0), between(13, 18, 21, 1, 0, 0)}, 62, []int{3, 20, 21, 18}},
		{[]api.Item{between(24, 0, most, 0, 1, 0), between(20, 0, most, 1, 1, 0), between(6, 0, most, 1, 1, 0), between(18, 16, 6, 0, 1, 4), between(4, 5, most, 3, 1, 0)}, 74, []int{24, 20, 5, 16, 5}},
		// Growing, with some at their greatest or their least ones.
		{[]api.Item{between(0, 0, 20, 1, 0, 0), item(0, 1, 0), item(0, 1, 0)}, 100, []int{20, 40, 40}},
		{[]api.Item{between(0, 70, most, 1, 0, 0), item(0, 1, 0), item(0, 1, 0)}, 100, []int{70, 15, 15}},
		{[]api.Item{between(0, 0, 10, 1, 0, 0), between(0, 0, 30, 1, 0, 0), item(0, 1, 0)}, 100, []int{10, 30, 60}},
		{[]api.Item{between(0, 50, most, 1, 0, 0), between(0, 0, 20, 1, 0, 0), item(0, 2, 0)}, 100, []int{50, 16, 34}},
		{[]api.Item{between(0, 0, 10, 1, 0, 0), between(0, 40, most, 1, 0, 0), item(0, 1, 0)}, 99, []int{10, 44, 45}},
		{[]api.Item{between(0, 0, 23, 1, 0, 0), between(0, 43, most, 1, 0, 0), item(0, 1, 0)}, 99, []int{23, 43, 33}},
		// Shrinking, likewise.
		{[]api.Item{between(100, 90, most, 0, 1, 0), item(100, 0, 1)}, 100, []int{90, 10}},
		{[]api.Item{between(100, 90, most, 0, 1, 0), between(100, 30, most, 0, 1, 0)}, 100, []int{90, 30}},
		{[]api.Item{between(100, 0, 20, 0, 1, 0), item(100, 0, 1)}, 100, []int{20, 80}},
		{[]api.Item{between(100, 80, most, 0, 1, 0), between(100, 0, 40, 0, 1, 0), item(100, 0, 1)}, 150, []int{80, 35, 35}},
		// Nothing is left to grow into, but one is more than it is wished: 0.
		{[]api.Item{between(80, 0, 10, 0, 1, 0), item(80, 1, 1), between(5, 0, most, 1, 1, 0)}, 100, []int{10, 82, 8}},
		{[]api.Item{between(90, 0, 10, 1, 0, 0), between(90, 0, 10, 1, 0, 0)}, 100, []int{10, 10}},
		{[]api.Item{item(60, 0, 1), item(20, 0, 1), between(0, 0, most, 0, 0, 300)}, 100, []int{0, 0, 0}},
		{[]api.Item{between(room, 0, most, 0, 100, 0), between(room, room, most, 0, 100, room)}, room, []int{0, room}},
	} {
		if got, e := flexible.Resolve(c.is, c.room); !slices.Equal(got, c.want) || e != api.OK {
			t.Errorf("P20.1: row %d: %v, %d; want %v", i, got, e, c.want)
		}
		if got := slow(c.is, c.room); !slices.Equal(got, c.want) {
			t.Errorf("P20.1: row %d, slowly: %v; want %v", i, got, c.want)
		}
	}
}

func TestResolveRefuses(t *testing.T) {
	refused := func(is []api.Item, room int) {
		t.Helper()
		if got, e := flexible.Resolve(is, room); len(got) != 0 || e != api.ErrFlexibleForm {
			t.Errorf("P20.1: Resolve(%v, %d): %v, %d", is, room, got, e)
		}
	}
	refused(make([]api.Item, 33), 100)
	for _, x := range []api.Item{{Base: -1}, {Base: room + 1}, {Min: -1}, {Min: room + 1}, {Max: -1}, {Max: most + 1}, {Grow: 101}, {Shrink: -1}, {Extra: room + 1}, {Extra: -room - 1}} {
		refused([]api.Item{{}, x}, 100)
	}
	for _, x := range []int{-1, room + 1, math.MinInt, math.MaxInt} {
		refused([]api.Item{{}}, x)
	}
}

// slow is the promise's words in numbers of any size.
func slow(is []api.Item, room int) []int {
	clamp := func(x int, it api.Item) int { return max(it.Min, min(x, it.Max)) }
	sizes, open := make([]int, len(is)), []int{}
	sum := 0
	for i, it := range is {
		sizes[i] = clamp(it.Base, it)
		sum += sizes[i] + it.Extra
	}
	grow := sum < room
	for i, it := range is {
		if grow && it.Grow > 0 && it.Base <= sizes[i] || !grow && it.Shrink > 0 && it.Base >= sizes[i] {
			open = append(open, i)
		}
	}
	for len(open) > 0 {
		free := room
		for i, it := range is {
			free -= it.Extra
			if slices.Contains(open, i) {
				free -= it.Base
			} else {
				free -= sizes[i]
			}
		}
		weight := func(i int) int { return is[i].Grow }
		if !grow {
			free, weight = -free, func(i int) int { return is[i].Shrink * is[i].Base }
		}
		f, all := big.NewInt(int64(max(0, free))), int64(0)
		for _, i := range open {
			all += int64(weight(i))
		}
		upTo := int64(0)
		part := func() int {
			if all == 0 {
				return 0
			}
			x := new(big.Int).Mul(f, big.NewInt(upTo))
			return int(x.Div(x, big.NewInt(all)).Int64())
		}
		diffs, total := make([]int, len(is)), 0
		for _, i := range open {
			before := part()
			upTo += int64(weight(i))
			share := part() - before
			if !grow {
				share = -share
			}
			size := is[i].Base + share
			sizes[i] = max(0, clamp(size, is[i]))
			diffs[i] = sizes[i] - size
			total += diffs[i]
		}
		open = slices.DeleteFunc(open, func(i int) bool {
			return total == 0 || total > 0 && diffs[i] > 0 || total < 0 && diffs[i] < 0
		})
	}
	return sizes
}

func some(r *probe.Rand) []api.Item {
	is := make([]api.Item, r.Next(r.Of(4, 8, 33)))
	great := r.Of(50, 500, room)
	for i := range is {
		is[i] = api.Item{
			Base: r.Of(0, r.Next(great+1), great), Min: r.Of(0, 0, r.Next(great+1)), Max: r.Of(most, most, r.Next(great+1)),
			Grow: r.Of(0, 1, 1, r.Next(101)), Shrink: r.Of(0, 1, 1, r.Next(101)), Extra: r.Of(0, 0, r.Between(-great, great)),
		}
	}
	return is
}

func TestResolveAll(t *testing.T) {
	r := probe.Rand(20)
	for range 20000 {
		is := some(&r)
		room := r.Of(0, 100, r.Next(3000), r.Next(room+1), room)
		before := slices.Clone(is)
		got, e := flexible.Resolve(is, room)
		if want := slow(is, room); !slices.Equal(got, want) || e != api.OK {
			t.Fatalf("P20.1: %v, room %d: %v, %d; want %v", is, room, got, e, want)
		}
		if !slices.Equal(is, before) {
			t.Fatal("R4: Resolve changes what is handed in")
		}
	}
}

// TestExactly (T5): sizes and extras are the room, if some may grow (or shrink)
// and none is clamped.
func TestExactly(t *testing.T) {
	r := probe.Rand(21)
	for range 5000 {
		is := make([]api.Item, r.Between(1, 32))
		sum, least := 0, 0
		for i := range is {
			is[i] = between(r.Next(500), 0, most, r.Next(3), r.Between(1, 3), r.Between(-20, 20))
			sum += is[i].Base + is[i].Extra
			least += is[i].Extra
		}
		is[0].Grow = 1
		room := r.Between(max(0, least), max(0, sum)+2000)
		got, e := flexible.Resolve(is, room)
		all := 0
		for i, size := range got {
			all += size + is[i].Extra
		}
		clamped := slices.Contains(got, 0)
		if e != api.OK || all != room && !clamped {
			t.Fatalf("P20.2: %v, room %d: %v, %d", is, room, got, e)
		}
	}
}
