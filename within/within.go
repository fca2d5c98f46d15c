// Package within tells of numbers whether they stand between limits.
package within

// Each tells whether each of xs is from least to most.
func Each(least int, most int, xs ...int) bool {
	for _, x := range xs {
		if x < least || x > most {
			return false
		}
	}
	return true
}
