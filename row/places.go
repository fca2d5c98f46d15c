package row

import (
	"forme/api"
)

// Places is where each of sizes begins along the lines.
func Places(just int, room int, sizes []int) []int {
	left := room
	for _, size := range sizes {
		left -= size
	}
	left = max(0, left)
	places, behind := make([]int, len(sizes)), 0
	for i, size := range sizes {
		places[i] = behind + ahead(just, left, i, len(sizes))
		behind += size
	}
	return places
}

// ahead is how much of what is left stands ahead of item i of n.
func ahead(just int, left int, i int, n int) int {
	switch {
	case just == api.JustEnd:
		return left
	case just == api.JustCenter:
		return left / 2
	case just == api.JustBetween && n > 1:
		return left * i / (n - 1)
	}
	return 0
}
