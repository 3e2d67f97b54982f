package wide

import (
	"math/big"
	"testing"
)

func bigOf(a Int) *big.Int {
	n := new(big.Int).Lsh(big.NewInt(a.high), 64)
	return n.Add(n, new(big.Int).SetUint64(a.low))
}

var numbers = []int64{0, 1, -1, 2, -7, 1 << 31, -1 << 31, 1<<40 + 9, -1<<52 - 3, 1<<61 - 1, -1 << 61}

// Exact numbers on which promises of ratios, clocks and controls stand.
func TestArithmetic(t *testing.T) {
	var all []Int
	for _, a := range numbers {
		for _, b := range numbers {
			p := Of(a).Times(b)
			if bigOf(p).Cmp(new(big.Int).Mul(big.NewInt(a), big.NewInt(b))) != 0 {
				t.Error(a, b, p)
			}
			all = append(all, p)
		}
	}
	for _, a := range all {
		for _, b := range all {
			if bigOf(a.Add(b)).Cmp(new(big.Int).Add(bigOf(a), bigOf(b))) != 0 || bigOf(a.Sub(b)).Cmp(new(big.Int).Sub(bigOf(a), bigOf(b))) != 0 {
				t.Error(a, b)
			}
			if a.Cmp(b) != bigOf(a).Cmp(bigOf(b)) {
				t.Error(a, b)
			}
		}
		for _, n := range []int64{0, 1, -1, 3, -5} {
			if bigOf(a.Times(n)).Cmp(new(big.Int).Mul(bigOf(a), big.NewInt(n))) != 0 {
				t.Error(a, n)
			}
		}
	}
}

func TestSteady(t *testing.T) {
	lists := [][]int64{nil, {5}, {0, 10, 20, 30}, {0, 12, 24, 33}, {0, 8, 16, 27}, {3, 14, 23, 33}, {0, 0, 0}, {0, 20, 10, 40}, {0, 9, 21}, {0, 11, 19}, {0, 10, 8, 21}, {0, 9, 18, 27, 39}, {0, 11, 22, 33, 41}, {0, 12, 20, 32, 40}}
	for _, l := range lists {
		for slack := range int64(4) {
			for jitter := range int64(8) {
				want := true
				for k := range l {
					for i := range k {
						d := l[k] - l[i] - int64(k-i)*10
						want = want && max(d, -d) <= int64(k-i)*slack+jitter
					}
				}
				at := func(k int) Int { return Of(l[k]) }
				if Steady(len(l), at, Of(10), Of(slack), Of(jitter)) != want {
					t.Error(l, slack, jitter, want)
				}
			}
		}
	}
}
