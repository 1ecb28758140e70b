package tock

import "math/bits"

// numbers is a set of numbers from 0 to 63, a bit each.
type numbers uint64

// eachOf holds every step-th number from the first one up to the last one.
func eachOf(first, last, step int) numbers {
	var all numbers
	for n := first; n <= last; n += step {
		all |= 1 << n
	}
	return all
}

func (s numbers) has(n int) bool { return s>>n&1 == 1 }

// from tells the least number from n on, and whether there is one.
func (s numbers) from(n int) (int, bool) {
	rest := uint64(s >> n)
	return n + bits.TrailingZeros64(rest), rest != 0
}
