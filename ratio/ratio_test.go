package ratio

import (
	"math/big"
	"testing"

	"soundservice/api"
)

var terms = []int64{1, 2, 3, 147, 160, 48000, 65536, 1 << 35, 1<<35 + 1, 1<<36 - 1, 1 << 36}

func ratios() []api.Ratio {
	var l []api.Ratio
	for _, a := range terms {
		for _, b := range terms {
			if r, e := Make(a, b); e == api.OK {
				l = append(l, r)
			}
		}
	}
	return l
}

var wrong = []api.Ratio{{}, {Num: 2, Den: 4}, {Num: -1, Den: 1}, {Num: 1, Den: -1}, {Num: 1, Den: 0}, {Num: 0, Den: 1}, {Num: 1<<36 + 1, Den: 1}, {Num: 1, Den: 1<<36 + 1}, {Num: -1 << 63, Den: -1 << 63}}

// P3.1
func TestMakeAndValid(t *testing.T) {
	for _, c := range []struct {
		num, den int64
		r        api.Ratio
		e        api.Errno
	}{
		{44100, 48000, api.Ratio{Num: 147, Den: 160}, api.OK},
		{7, 7, api.Ratio{Num: 1, Den: 1}, api.OK},
		{1 << 36, 1, api.Ratio{Num: 1 << 36, Den: 1}, api.OK},
		{1 << 40, 1 << 30, api.Ratio{Num: 1024, Den: 1}, api.OK},
		{1<<63 - 1, 1<<63 - 1, api.Ratio{Num: 1, Den: 1}, api.OK},
		{1<<36 + 1, 1, api.Ratio{}, api.ErrRange},
		{1, 1<<36 + 1, api.Ratio{}, api.ErrRange},
		{0, 1, api.Ratio{}, api.ErrInvalid},
		{1, 0, api.Ratio{}, api.ErrInvalid},
		{-1 << 63, 1, api.Ratio{}, api.ErrInvalid},
		{1 << 40, -1, api.Ratio{}, api.ErrInvalid},
	} {
		if r, e := Make(c.num, c.den); r != c.r || e != c.e {
			t.Error(c, r, e)
		}
	}
	for _, r := range ratios() {
		if !Valid(r) {
			t.Error(r)
		}
	}
	for _, r := range wrong {
		if Valid(r) {
			t.Error(r)
		}
	}
}

func rat(r api.Ratio) *big.Rat { return big.NewRat(r.Num, r.Den) }

// P3.2
func TestMulInverseCmp(t *testing.T) {
	most := big.NewInt(api.MaxTerm)
	for _, a := range ratios() {
		i, e := Inverse(a)
		if e != api.OK || i.Num != a.Den || i.Den != a.Num {
			t.Error(a, i, e)
		}
		for _, b := range ratios() {
			want := new(big.Rat).Mul(rat(a), rat(b))
			r, e := Mul(a, b)
			if want.Num().Cmp(most) > 0 || want.Denom().Cmp(most) > 0 {
				if e != api.ErrRange || r != (api.Ratio{}) {
					t.Error(a, b, r, e)
				}
			} else if e != api.OK || rat(r).Cmp(want) != 0 || !Valid(r) {
				t.Error(a, b, r, e)
			}
			if Cmp(a, b) != rat(a).Cmp(rat(b)) {
				t.Error(a, b, Cmp(a, b))
			}
		}
	}
	one := api.Ratio{Num: 1, Den: 1}
	for _, r := range wrong {
		if x, e := Mul(r, one); e != api.ErrInvalid || x != (api.Ratio{}) {
			t.Error(r, x, e)
		}
		if _, e := Mul(one, r); e != api.ErrInvalid {
			t.Error(r, e)
		}
		if x, e := Inverse(r); e != api.ErrInvalid || x != (api.Ratio{}) {
			t.Error(r, x, e)
		}
		if Cmp(r, one) != 0 || Cmp(one, r) != 0 {
			t.Error(r)
		}
	}
}

// expected returns Floor, Rest and Ceil computed with big numbers.
func expected(n int64, r api.Ratio) (floor, rest, ceil *big.Int) {
	p := new(big.Int).Mul(big.NewInt(n), big.NewInt(r.Num))
	floor, rest = new(big.Int).DivMod(p, big.NewInt(r.Den), new(big.Int))
	ceil = new(big.Int).Set(floor)
	if rest.Sign() != 0 {
		ceil.Add(ceil, big.NewInt(1))
	}
	return floor, rest, ceil
}

func agrees(t *testing.T, what string, n int64, r api.Ratio, got int64, e api.Errno, want, bounded *big.Int) {
	most := new(big.Int).Lsh(big.NewInt(1), 62)
	if bounded.CmpAbs(most) > 0 {
		if e != api.ErrRange || got != 0 {
			t.Error(what, n, r, got, e)
		}
	} else if e != api.OK || want.Cmp(big.NewInt(got)) != 0 {
		t.Error(what, n, r, got, e, want)
	}
}

// P3.3
func TestFloorCeilRest(t *testing.T) {
	for _, r := range append(ratios(), api.Ratio{Num: 3, Den: 2}, api.Ratio{Num: 4097, Den: 2}, api.Ratio{Num: 8193, Den: 2}) {
		for _, n := range []int64{0, 1, -1, 2, -2, 1000, -1000, 159, 160, 1<<26 - 1, 1 << 26, -1 << 26, 1<<50 - 1, 1 << 50, -1 << 50} {
			floor, rest, ceil := expected(n, r)
			x, e := Floor(n, r)
			agrees(t, "floor", n, r, x, e, floor, floor)
			x, e = Ceil(n, r)
			agrees(t, "ceil", n, r, x, e, ceil, ceil)
			x, e = Rest(n, r)
			agrees(t, "rest", n, r, x, e, rest, floor)
		}
	}
}

// P3.3: the results at the greatest size, of which only one is in range.
func TestFloorAtTheEdge(t *testing.T) {
	// n * Num = 2^62 * 5 + 1 and so on: Floor is 2^62, Ceil is 2^62 + 1.
	r := api.Ratio{Num: 5<<12 + 1, Den: 5}
	for n := int64(1)<<50 - 1<<40; n <= 1<<50; n += 1 << 33 {
		floor, rest, ceil := expected(n, r)
		x, e := Floor(n, r)
		agrees(t, "floor", n, r, x, e, floor, floor)
		x, e = Ceil(-n, r)
		agrees(t, "ceil", -n, r, x, e, new(big.Int).Neg(floor), floor)
		x, e = Ceil(n, r)
		agrees(t, "ceil", n, r, x, e, ceil, ceil)
		x, e = Rest(n, r)
		agrees(t, "rest", n, r, x, e, rest, floor)
	}
}

// P3.3: the order of errors.
func TestFloorErrors(t *testing.T) {
	one := api.Ratio{Num: 1, Den: 1}
	for _, f := range []func(int64, api.Ratio) (int64, api.Errno){Floor, Ceil, Rest} {
		for _, n := range []int64{1<<50 + 1, -1<<50 - 1, 1<<63 - 1, -1 << 63} {
			if x, e := f(n, one); e != api.ErrRange || x != 0 {
				t.Error(n, x, e)
			}
			if _, e := f(n, api.Ratio{Num: 2, Den: 2}); e != api.ErrInvalid {
				t.Error(n, e)
			}
		}
		for _, r := range wrong {
			if x, e := f(1, r); e != api.ErrInvalid || x != 0 {
				t.Error(r, x, e)
			}
		}
	}
	if x, e := Floor(-1, api.Ratio{Num: 1, Den: 2}); x != -1 || e != api.OK {
		t.Error(x, e)
	}
}
