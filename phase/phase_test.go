package phase

import (
	"math/big"
	"testing"

	"soundservice/api"
)

const maxInt, minInt = 1<<63 - 1, -1 << 63

func rat(num, den int64) api.Ratio { return api.Ratio{Num: num, Den: den} }

var valid = []api.Phase{
	{Base: rat(1, 1)}, {Base: rat(147, 160)}, {Base: rat(160, 147), Adjust: 4096, Pos: 7, Frac: 147*65536 - 1},
	{Base: rat(1, 2), Adjust: -4096, Pos: 1 << 49, Frac: 5}, {Base: rat(1, 768000), Frac: 768000*65536 - 1}, {Base: rat(768000, 1), Adjust: 4096, Pos: 1<<50 - 1<<37, Frac: 65535},
	{Base: rat(767999, 768000), Adjust: 33, Frac: 1},
}

var invalid = []api.Phase{
	{}, {Base: rat(2, 2)}, {Base: rat(768001, 1)}, {Base: rat(1, 768001)}, {Base: rat(1, 1), Adjust: 4097}, {Base: rat(1, 1), Adjust: -4097},
	{Base: rat(1, 1), Pos: -1}, {Base: rat(1, 1), Pos: 1<<50 + 1}, {Base: rat(1, 1), Frac: -1}, {Base: rat(1, 1), Frac: 65536}, {Base: rat(3, 2), Frac: 2 * 65536},
}

// P14.1
func TestValidAndNew(t *testing.T) {
	for _, p := range append([]api.Phase{{Base: rat(1, 1), Pos: 1 << 50, Frac: 65535}}, valid...) {
		if !Valid(p) {
			t.Error(p)
		}
	}
	for _, p := range invalid {
		if Valid(p) {
			t.Error(p)
		}
	}
	if p, e := New(rat(147, 160)); e != api.OK || p != (api.Phase{Base: rat(147, 160)}) {
		t.Error(p, e)
	}
	for _, r := range []api.Ratio{{}, rat(2, 4), rat(768001, 2), rat(-1, 1)} {
		if p, e := New(r); e != api.ErrInvalid || p != (api.Phase{}) {
			t.Error(r, p, e)
		}
	}
}

// P14.1
func TestRetune(t *testing.T) {
	for _, p := range valid {
		for _, adjust := range []int{0, -4096, 4096, 7} {
			want := p
			want.Adjust = adjust
			if q, e := Retune(p, adjust); q != want || e != api.OK {
				t.Error(p, adjust, q, e)
			}
		}
		for _, adjust := range []int{4097, -4097, maxInt, minInt} {
			if q, e := Retune(p, adjust); q != (api.Phase{}) || e != api.ErrRange {
				t.Error(p, adjust, q, e)
			}
		}
	}
	for _, p := range invalid {
		if q, e := Retune(p, maxInt); q != (api.Phase{}) || e != api.ErrInvalid {
			t.Error(p, q, e)
		}
	}
}

// exact is the position of an output frame, from Pos on, as whole frames and the rest.
func exact(p api.Phase, i int) (whole, rest int64) {
	x := new(big.Int).Mul(big.NewInt(int64(i)), big.NewInt(p.Base.Num))
	x.Mul(x, big.NewInt(int64(65536+p.Adjust)))
	x.Add(x, big.NewInt(p.Frac))
	q, r := x.QuoRem(x, big.NewInt(p.Base.Den*65536), new(big.Int))
	return q.Int64(), r.Int64()
}

var counts = []int{0, 1, 2, 3, 4, 100, 147, 160, 320, 65535, 65536}

// P14.2
func TestAtAndAdvance(t *testing.T) {
	for _, p := range valid {
		for _, i := range counts {
			whole, rest := exact(p, i)
			pos, frac, e := At(p, i)
			if e != api.OK || pos != p.Pos+whole || frac != rest {
				t.Error(p, i, pos, frac, e)
			}
			want := p
			want.Pos, want.Frac = pos, frac
			if q, e := Advance(p, i); e != api.OK || q != want {
				t.Error(p, i, q, e)
			}
		}
	}
	if pos, frac, _ := At(api.Phase{Base: rat(147, 160)}, 160); pos != 147 || frac != 0 {
		t.Error(pos, frac)
	}
	p := api.Phase{Base: rat(768000, 1), Pos: 1<<50 - 768000}
	if _, e := Advance(p, 1); e != api.OK {
		t.Error(e)
	}
	if q, e := Advance(p, 2); e != api.ErrRange || q != (api.Phase{}) {
		t.Error(q, e)
	}
	if pos, _, e := At(p, 2); e != api.OK || pos != 1<<50+768000 {
		t.Error(pos, e)
	}
}

// P14.2, P14.3, P14.4: errors and their order.
func TestErrors(t *testing.T) {
	for _, n := range []int{-1, minInt, 65537, maxInt} {
		for _, p := range append(invalid, valid...) {
			want := api.ErrInvalid
			if Valid(p) {
				want = api.ErrRange
			}
			if a, b, e := At(p, n); a != 0 || b != 0 || e != want {
				t.Error(p, n, e)
			}
			if q, e := Advance(p, n); q != (api.Phase{}) || e != want {
				t.Error(p, n, e)
			}
			if k, e := Need(p, n); k != 0 || e != want {
				t.Error(p, n, e)
			}
			if n != 65537 {
				if k, e := Make(p, max(int64(n), -5)); (k != 0 || e != want) && (n < 0 || e != want) {
					t.Error(p, n, k, e)
				}
			}
		}
	}
	if k, e := Make(valid[0], 1<<40); k != api.MaxFrames || e != api.OK {
		t.Error(k, e)
	}
	if k, e := Make(valid[0], 1<<40+1); k != 0 || e != api.ErrRange {
		t.Error(k, e)
	}
}

// P14.3, P14.4
func TestNeedAndMake(t *testing.T) {
	for _, p := range valid {
		for _, n := range counts {
			want := int64(0)
			if n > 0 {
				last, _ := exact(p, n-1)
				after, _ := exact(p, n)
				want = max(last+2, after)
			}
			got, e := Need(p, n)
			if got != want || e != api.OK {
				t.Error(p, n, got, want, e)
			}
			if made, e := Make(p, got); made < n || e != api.OK {
				t.Error(p, n, made, e)
			}
			if n > 0 {
				if made, e := Make(p, got-1); made >= n || e != api.OK {
					t.Error(p, n, made, e)
				}
			}
		}
		for _, n := range []int64{0, 1, 2, 3, 50, 70000, 1 << 36, 1 << 37} {
			made, e := Make(p, n)
			need, _ := Need(p, made)
			if e != api.OK || need > n {
				t.Error(p, n, made, need, e)
			}
			if made < api.MaxFrames {
				if more, _ := Need(p, made+1); more <= n {
					t.Error(p, n, made, more)
				}
			}
		}
	}
	for n, want := range map[int]int64{0: 0, 1: 2, 4: 5} {
		if got, _ := Need(valid[0], n); got != want {
			t.Error(n, got)
		}
	}
	if got, _ := Need(api.Phase{Base: rat(5, 1)}, 2); got != 10 { // what is passed over must be there
		t.Error(got)
	}
}
