// Package probe makes numbers for the tests: many, and the same ones in each run.
package probe

// Rand is a row of numbers; its first value decides all of them.
type Rand uint64

// Next is the row's next number, from 0 below n.
func (r *Rand) Next(n int) int {
	*r = *r*6364136223846793005 + 1442695040888963407
	return int(uint64(*r) >> 33 % uint64(n))
}

// Between is one from least to most.
func (r *Rand) Between(least int, most int) int {
	return least + r.Next(most-least+1)
}

// Of is one of xs.
func (r *Rand) Of(xs ...int) int {
	return xs[r.Next(len(xs))]
}

// Near is one of the limits, or one of the numbers beside it.
func (r *Rand) Near(limits ...int) int {
	return r.Of(limits...) + r.Next(3) - 1
}
