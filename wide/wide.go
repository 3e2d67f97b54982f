// Package wide has exact integers of 128 bits, for sums of products that do not fit into 64 bits.
package wide

import "math/bits"

// Int is an integer in two's complement; results beyond 128 bits wrap around.
type Int struct {
	high int64
	low  uint64
}

// Of returns n.
func Of(n int64) Int { return Int{n >> 63, uint64(n)} }

// Add returns a + b.
func (a Int) Add(b Int) Int {
	low, carry := bits.Add64(a.low, b.low, 0)
	return Int{a.high + b.high + int64(carry), low}
}

// Sub returns a - b.
func (a Int) Sub(b Int) Int {
	low, borrow := bits.Sub64(a.low, b.low, 0)
	return Int{a.high - b.high - int64(borrow), low}
}

// Times returns a * n.
func (a Int) Times(n int64) Int {
	high, low := bits.Mul64(a.low, uint64(n))
	if n < 0 { // n was taken for n + 2^64
		high -= a.low
	}
	return Int{int64(high) + a.high*n, low}
}

// Cmp returns -1, 0 or 1 as a is less than, equal to, or greater than b.
func (a Int) Cmp(b Int) int {
	switch {
	case a == b:
		return 0
	case a.high < b.high || a.high == b.high && a.low < b.low:
		return -1
	}
	return 1
}

// Steady reports whether, for all i < k of the indices from 0 to n - 1, at(k) - at(i) differs from (k - i) * step by at most (k - i) * slack + jitter.
func Steady(n int, at func(int) Int, step, slack, jitter Int) bool {
	// at(k) - k * (step + slack) must never be more than jitter above the least such number before it, and at(k) - k * (step - slack) never be more than that below the greatest one.
	upper, lower := step.Add(slack), step.Sub(slack)
	var least, greatest Int
	for k := range n {
		here := at(k)
		over, under := here.Sub(upper.Times(int64(k))), here.Sub(lower.Times(int64(k)))
		if k == 0 {
			least, greatest = over, under
		}
		if over.Sub(least).Cmp(jitter) > 0 || greatest.Sub(under).Cmp(jitter) > 0 {
			return false
		}
		if over.Cmp(least) < 0 {
			least = over
		}
		if under.Cmp(greatest) > 0 {
			greatest = under
		}
	}
	return true
}
