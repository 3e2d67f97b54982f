package control

import (
	"math/big"
	"slices"
	"testing"

	"soundservice/api"
)

const maxInt, minInt = 1<<63 - 1, -1 << 63

func rat(num, den int64) api.Ratio { return api.Ratio{Num: num, Den: den} }

// P18.1
func TestValidAndAdjust(t *testing.T) {
	for _, c := range []struct {
		c  api.Control
		ok bool
	}{
		{api.Control{Gain: 1}, true}, {api.Control{Target: 65536, Dead: 65536, Gain: 4096, Most: 4096}, true},
		{api.Control{}, false}, {api.Control{Target: -1, Gain: 1}, false}, {api.Control{Target: 65537, Gain: 1}, false}, {api.Control{Dead: -1, Gain: 1}, false}, {api.Control{Dead: 65537, Gain: 1}, false},
		{api.Control{Gain: 4097}, false}, {api.Control{Gain: -1}, false}, {api.Control{Gain: 1, Most: -1}, false}, {api.Control{Gain: 1, Most: 4097}, false},
	} {
		if Valid(c.c) != c.ok {
			t.Error(c)
		}
	}
	c := api.Control{Target: 100, Dead: 10, Gain: 4, Most: 100}
	for fill, want := range map[int]int{100: 0, 110: 0, 90: 0, 111: 4, 134: 96, 135: 100, 136: 100, 1000: 100, 1<<31 - 1: 100, 89: -4, 65: -100, 66: -96, 0: -100, -1: 0, 1 << 31: 0, maxInt: 0, minInt: 0} {
		if got := Adjust(c, fill); got != want {
			t.Error(fill, got, want)
		}
	}
	if Adjust(api.Control{Target: 5}, 100) != 0 {
		t.Error("a control that is not valid")
	}
}

// declared looks at every run.
func declared(base, period api.Ratio, drift, jitter int64, l []api.Transfer) bool {
	for i := range l {
		u, v := new(big.Rat), new(big.Rat)
		for k := i; k < len(l); k++ {
			m := int64(k - i + 1)
			u.Add(u, new(big.Rat).Mul(big.NewRat(int64(l[k].Pull), 1), big.NewRat(base.Num, base.Den)))
			v.Add(v, big.NewRat(int64(l[k].Push), 1))
			ideal := new(big.Rat).Mul(big.NewRat(m, 1), big.NewRat(period.Num, period.Den))
			most := new(big.Rat).Mul(ideal, big.NewRat(drift, 65536))
			most.Add(most, big.NewRat(jitter, 1))
			for _, d := range []*big.Rat{new(big.Rat).Sub(u, ideal), new(big.Rat).Sub(v, ideal), new(big.Rat).Sub(u, v)} {
				if d.Abs(d).Cmp(most) > 0 {
					return false
				}
			}
		}
	}
	return true
}

// P18.2
func TestDeclared(t *testing.T) {
	seed := uint32(1)
	below := func(n int) int {
		seed = seed*1664525 + 1013904223
		return int(seed>>16) % n
	}
	yes, no := 0, 0
	for range 3000 {
		base := []api.Ratio{rat(1, 1), rat(147, 160), rat(3, 2)}[below(3)]
		period := []api.Ratio{rat(64, 1), rat(441, 10), rat(100, 7)}[below(3)]
		drift, jitter := []int{0, 100, 4096}[below(3)], below(4)
		var l []api.Transfer
		u, v := 0, 0
		for k := 1; k <= 1+below(12); k++ { // near what is nominal
			pulls := int(int64(k)*period.Num*base.Den/(period.Den*base.Num)) + below(3) - 1
			pushes := int(int64(k)*period.Num/period.Den) + below(3) - 1
			l = append(l, api.Transfer{Pull: max(pulls-u, 0), Push: max(pushes-v, 0)})
			u, v = pulls, pushes
		}
		want := declared(base, period, int64(drift), int64(jitter), l)
		if want {
			yes++
		} else {
			no++
		}
		if Declared(base, period, drift, jitter, l) != want {
			t.Fatal(base, period, drift, jitter, l, want)
		}
	}
	if yes < 300 || no < 300 {
		t.Error(yes, no)
	}
}

// P18.2: the edges.
func TestDeclaredEdges(t *testing.T) {
	one := rat(1, 1)
	same := func(n, pull, push int) []api.Transfer {
		return slices.Repeat([]api.Transfer{{Pull: pull, Push: push}}, n)
	}
	for i, c := range []struct {
		base, period  api.Ratio
		drift, jitter int
		l             []api.Transfer
		ok            bool
	}{
		{one, rat(64, 1), 0, 0, nil, true}, {one, rat(64, 1), 0, 0, same(256, 64, 64), true}, {one, rat(64, 1), 0, 0, same(257, 64, 64), false},
		{one, rat(4096, 1), 16, 0, same(256, 4097, 4096), true}, {one, rat(4096, 1), 15, 0, same(256, 4097, 4096), false}, {one, rat(4096, 1), 16, 0, same(256, 4096, 4095), true},
		{one, rat(4096, 1), 31, 0, same(3, 4097, 4095), false}, {one, rat(4096, 1), 32, 0, same(3, 4097, 4095), true}, // each differs by 1, both by 2
		{one, rat(64, 1), 0, 5, []api.Transfer{{Pull: 69, Push: 69}, {Pull: 64, Push: 64}, {Pull: 59, Push: 59}}, true},
		{one, rat(64, 1), 0, 5, []api.Transfer{{Pull: 67, Push: 67}, {Pull: 64, Push: 64}, {Pull: 67, Push: 67}}, false},
		{rat(2, 2), rat(64, 1), 0, 9, nil, false}, {rat(768001, 1), rat(64, 1), 0, 9, nil, false}, {rat(1, 768001), rat(64, 1), 0, 9, nil, false}, {rat(768000, 1), rat(64, 1), 0, 9, nil, true}, {rat(1, 768000), rat(64, 1), 0, 9, nil, true}, {one, one, 0, 9, same(3, 0, 0), true}, {one, one, 0, 0, same(1, 0, 0), false},
		{one, rat(1, 64), 0, 0, nil, true}, {one, rat(1, 65), 0, 0, nil, false}, {one, rat(524288, 1), 0, 0, nil, true}, {one, rat(524289, 1), 0, 0, nil, false}, {one, rat(64, 768001), 0, 0, nil, false}, {one, rat(767999, 768000), 0, 0, nil, true}, {one, rat(768002, 768001), 0, 0, nil, false}, {one, api.Ratio{}, 0, 0, nil, false},
		{one, one, -1, 0, nil, false}, {one, one, 4097, 0, nil, false}, {one, one, 4096, 65536, nil, true}, {one, one, 0, 65537, nil, false}, {one, one, 0, -1, nil, false},
		{one, one, 0, 65536, same(1, -1, 0), false}, {one, one, 0, 65536, same(1, 0, -1), false}, {one, one, 0, 65536, same(1, 65537, 0), false}, {one, one, 0, 65536, same(1, 0, 65537), false}, {one, one, 4096, 65536, same(1, 65536, 65536), true},
	} {
		if Declared(c.base, c.period, c.drift, c.jitter, c.l) != c.ok {
			t.Error(i, c)
		}
	}
}

// P18.3, P18.4
func TestBoundAndDemand(t *testing.T) {
	c := api.Control{Target: 100, Dead: 10, Gain: 4, Most: 101}
	for _, k := range []struct {
		period               api.Ratio
		drift, jitter, start int
		bound, demand        int
	}{
		{rat(64, 1), 0, 0, 0, 36 + 1 + 2, 64 + 1 + 3},
		{rat(64, 1), 0, 3, 50, 50 + 1 + 8, 64 + 1 + 9},
		{rat(65536, 1), 27, 1, 36, 36 + 256 + 4, 65536 + 256 + 5},
		{rat(131073, 2), 0, 0, 37, 37 + 203 + 2, 65537 + 203 + 3},
		{rat(1, 64), 0, 65536, 65536, 65536 + 1 + 131074, 1 + 1 + 131075},
	} {
		if n, e := Bound(c, k.period, k.drift, k.jitter, k.start); n != k.bound || e != api.OK {
			t.Error(k, n, e)
		}
		if n, e := Demand(c, k.period, k.drift, k.jitter); n != k.demand || e != api.OK {
			t.Error(k, n, e)
		}
	}
	// Most * (65536 - drift) is to be at least 65536 * drift: with 101, up to 100.
	for _, k := range []struct {
		c                    api.Control
		period               api.Ratio
		drift, jitter, start int
		bound, demand        api.Errno
	}{
		{c, rat(64, 1), 100, 0, 0, api.OK, api.OK}, {c, rat(64, 1), 101, 0, 0, api.ErrMismatch, api.ErrMismatch}, {c, rat(64, 1), 4096, 0, 0, api.ErrMismatch, api.ErrMismatch},
		{api.Control{}, rat(64, 1), 0, 0, 0, api.ErrInvalid, api.ErrInvalid}, {c, rat(1, 65), 101, 0, 0, api.ErrInvalid, api.ErrInvalid},
		{c, rat(64, 1), -1, 0, 0, api.ErrInvalid, api.ErrInvalid}, {c, rat(64, 1), 4097, 0, 0, api.ErrInvalid, api.ErrInvalid}, {c, rat(64, 1), minInt, 0, 0, api.ErrInvalid, api.ErrInvalid},
		{c, rat(64, 1), 101, -1, 0, api.ErrInvalid, api.ErrInvalid}, {c, rat(64, 1), 101, 65537, 0, api.ErrInvalid, api.ErrInvalid},
		{c, rat(64, 1), 101, 0, -1, api.ErrInvalid, api.ErrMismatch}, {c, rat(64, 1), 0, 0, 65537, api.ErrInvalid, api.OK},
	} {
		if n, e := Bound(k.c, k.period, k.drift, k.jitter, k.start); e != k.bound || e != api.OK && n != 0 {
			t.Error(k, n, e)
		}
		if n, e := Demand(k.c, k.period, k.drift, k.jitter); e != k.demand || e != api.OK && n != 0 {
			t.Error(k, n, e)
		}
	}
}

// P18.5
func TestPlan(t *testing.T) {
	for _, k := range []struct {
		period              api.Ratio
		drift, jitter, dead int
		gain                int
		most, start         int
	}{
		{rat(64, 1), 0, 0, 10, 4, 0, 1}, {rat(64, 1), 100, 2, 16, 16, 101, 4}, {rat(441, 10), 7, 5, 0, 1, 8, 7}, {rat(4096, 1), 2048, 4096, 100, 4096, 2115, 4353},
	} {
		c, capacity, e := Plan(k.period, k.drift, k.jitter, k.dead, k.gain)
		bound, f := Bound(c, k.period, k.drift, k.jitter, k.start)
		demand, g := Demand(c, k.period, k.drift, k.jitter)
		want := api.Control{Target: demand + bound, Dead: k.dead, Gain: k.gain, Most: k.most}
		if e != api.OK || f != api.OK || g != api.OK || c != want || capacity != c.Target+bound {
			t.Error(k, c, capacity, e, bound, demand)
		}
	}
	for _, k := range []struct {
		period                    api.Ratio
		drift, jitter, dead, gain int
		e                         api.Errno
	}{
		{api.Ratio{}, 0, 0, 0, 1, api.ErrInvalid}, {rat(64, 1), -1, 0, 0, 1, api.ErrInvalid}, {rat(64, 1), 4097, 0, 0, 1, api.ErrInvalid}, {rat(64, 1), 0, -1, 0, 1, api.ErrInvalid}, {rat(64, 1), 4096, 65537, 0, 1, api.ErrInvalid},
		{rat(64, 1), 4096, 0, -1, 1, api.ErrInvalid}, {rat(64, 1), 4096, 0, 65537, 1, api.ErrInvalid}, {rat(64, 1), 4096, 0, 0, 0, api.ErrInvalid}, {rat(64, 1), 0, 0, 0, 4097, api.ErrInvalid},
		{rat(64, 1), 3856, 0, 0, 1, api.ErrRange}, {rat(524288, 1), 4096, 65536, 65536, 1, api.ErrRange}, {rat(64, 1), 3855, 0, 0, 4096, api.OK},
		{rat(64, 1), 0, 65536, 0, 1, api.ErrLimit}, {rat(64, 1), 0, 0, 65536, 1, api.ErrLimit}, {rat(524288, 1), 0, 0, 0, 1, api.ErrLimit}, {rat(65536, 1), 0, 0, 0, 1, api.ErrLimit}, {rat(524288, 1), 3500, 30000, 0, 1, api.ErrLimit},
		// without drift: Target is 64 + 3 + dead + 2, the capacity dead + 2 more.
		{rat(65, 1), 0, 0, 32732, 1, api.OK}, {rat(65, 1), 0, 0, 32733, 1, api.ErrLimit}, {rat(64, 1), 0, 0, 32731, 1, api.OK}, {rat(64, 1), 0, 0, 32733, 1, api.ErrLimit},
	} {
		c, capacity, e := Plan(k.period, k.drift, k.jitter, k.dead, k.gain)
		if e != k.e || e != api.OK && (c != (api.Control{}) || capacity != 0) || e == api.OK && (capacity > api.MaxCapacity || !Valid(c)) {
			t.Error(k, c, capacity, e)
		}
	}
}
