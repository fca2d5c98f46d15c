// Package row lays items in rows: items that may be longer, in rooms that may be
// longer, than layers 19 to 21 take.
package row

import (
	"forme/api"
	"forme/used"
)

// Collect is how many items stand in each line.
func Collect(is []api.Item, room int, wrap bool) []int {
	var counts []int
	long := 0
	for i, item := range is {
		outer := wish(item) + item.Extra
		if i == 0 || wrap && long+outer > room {
			counts, long = append(counts, 0), 0
		}
		counts[len(counts)-1]++
		long += outer
	}
	return counts
}

// wish is how long an item is where none grows or shrinks.
func wish(item api.Item) int {
	return used.Between(item.Base, item.Min, item.Max)
}
