package row

import (
	"slices"

	"forme/api"
	"forme/used"
)

// Resolve is a size of each item of a line: they grow into what is free, or
// shrink by what is missing.
func Resolve(is []api.Item, room int) []int {
	l := begin(is, room)
	for slices.Contains(l.frozen, false) {
		l.share()
	}
	return l.sizes
}

// line is items whose sizes are being found; a frozen one's does not change.
type line struct {
	items  []api.Item
	room   int
	grows  bool
	sizes  []int
	frozen []bool
}

// begin is a line of items at their wishes; those are frozen that can't grow (or
// shrink), or whose wish lies the other way.
func begin(is []api.Item, room int) *line {
	l := &line{items: is, room: room, sizes: make([]int, len(is)), frozen: make([]bool, len(is))}
	outer := 0
	for i, item := range is {
		l.sizes[i] = wish(item)
		outer += l.sizes[i] + item.Extra
	}
	l.grows = outer < room
	for i, item := range is {
		if l.grows {
			l.frozen[i] = item.Grow == 0 || item.Base > l.sizes[i]
		} else {
			l.frozen[i] = item.Shrink == 0 || item.Base < l.sizes[i]
		}
	}
	return l
}

// share shares what is free among those that are not frozen, and freezes those
// at their least ones, or those at their greatest ones, or all: by how much each
// is more than its share made it tells which.
func (l *line) share() {
	shares := shareOut(l.free(), l.weights())
	more, sum := map[int]int{}, 0
	for i, item := range l.items {
		if l.frozen[i] {
			continue
		}
		size := item.Base + shares[i]
		if !l.grows {
			size = item.Base - shares[i]
		}
		l.sizes[i] = max(0, used.Between(size, item.Min, item.Max))
		more[i] = l.sizes[i] - size
		sum += more[i]
	}
	for i, x := range more {
		l.frozen[i] = sum == 0 || sum > 0 && x > 0 || sum < 0 && x < 0
	}
}

// free is what is free to grow into, or what is missing, at least 0.
func (l *line) free() int {
	free := l.room
	for i, item := range l.items {
		free -= item.Extra
		if l.frozen[i] {
			free -= l.sizes[i]
		} else {
			free -= item.Base
		}
	}
	if !l.grows {
		free = -free
	}
	return max(0, free)
}

// weights is by what the items share; a frozen one's is 0.
func (l *line) weights() []int {
	weights := make([]int, len(l.items))
	for i, item := range l.items {
		switch {
		case l.frozen[i]:
		case l.grows:
			weights[i] = item.Grow
		default:
			weights[i] = item.Shrink * item.Base
		}
	}
	return weights
}

// shareOut shares f by weights, whole numbers that are f together.
func shareOut(f int, weights []int) []int {
	shares := make([]int, len(weights))
	sum := 0
	for _, w := range weights {
		sum += w
	}
	if sum == 0 {
		return shares
	}
	upTo, given := 0, 0
	for i, w := range weights {
		upTo += w
		shares[i] = f*upTo/sum - given
		given += shares[i]
	}
	return shares
}
