package mixture

import (
	"reflect"
	"slices"
	"testing"

	"soundservice/api"
	"soundservice/gain"
	"soundservice/limiter"
	"soundservice/matrix"
)

const hi = 1<<23 - 1

func mono(l ...int32) api.Block { return api.Block{Channels: 1, Data: l} }

func identity(n int) api.Matrix {
	m, _ := matrix.Identity(n)
	return m
}

var unit = api.Ramp{From: api.Unit, To: api.Unit}

func plain(l ...int32) api.Input {
	return api.Input{Block: mono(l...), Matrix: identity(1), Ramp: unit}
}

// P23.1
func TestSum(t *testing.T) {
	down, _ := matrix.Default([]int{1, 2}, []int{3})
	fade := api.Ramp{From: 0, To: api.Unit, Frames: 4}
	l := []api.Input{plain(100, 200), {Block: api.Block{Channels: 2, Data: []int32{25600, 25600, 2, 0, 9, 9}}, Matrix: down, Ramp: unit}, {Block: mono(1000, 1000, 1000, 1000), Matrix: identity(1), Ramp: fade}}
	want := []int64{100 + 36203, 200 + 1 + 250, 13 + 500, 750, 0}
	if sums, e := Sum(1, 5, l); e != api.OK || !slices.Equal(sums, want) {
		t.Error(sums, e)
	}
	slices.Reverse(l)
	if sums, e := Sum(1, 5, l); e != api.OK || !slices.Equal(sums, want) {
		t.Error("the order of inputs", sums, e)
	}
	if sums, e := Sum(3, 2, nil); e != api.OK || !slices.Equal(sums, make([]int64, 6)) {
		t.Error(sums, e)
	}
	if sums, e := Sum(1, 1, slices.Repeat([]api.Input{plain(hi)}, 32)); e != api.OK || sums[0] != 32*hi {
		t.Error(sums, e)
	}
	if sums, e := Sum(1, 0, []api.Input{plain()}); e != api.OK || len(sums) != 0 {
		t.Error(sums, e)
	}
}

// P23.1: errors and their order.
func TestSumErrors(t *testing.T) {
	bad := api.Input{Block: mono(hi + 1), Matrix: identity(2), Ramp: unit}
	wide := api.Input{Block: mono(1, 2, 3), Matrix: identity(2), Ramp: unit}
	long := plain(1, 2, 3)
	for i, c := range []struct {
		channels, frames int
		l                []api.Input
		e                api.Errno
	}{
		{0, 1, make([]api.Input, 33), api.ErrRange}, {9, 1, nil, api.ErrRange}, {1, -1, nil, api.ErrRange}, {1, 65537, []api.Input{bad}, api.ErrRange}, {8, 65536, nil, api.OK},
		{1, 1, make([]api.Input, 33), api.ErrLimit}, {1, 1, make([]api.Input, 32), api.ErrInvalid},
		{1, 2, []api.Input{bad, wide}, api.ErrInvalid}, {1, 2, []api.Input{wide, bad}, api.ErrMismatch}, {1, 2, []api.Input{plain(1), long, bad}, api.ErrRange}, {1, 2, []api.Input{wide}, api.ErrMismatch},
		{1, 3, []api.Input{{Block: mono(1), Matrix: api.Matrix{}, Ramp: unit}}, api.ErrInvalid}, {1, 3, []api.Input{{Block: mono(1), Matrix: identity(1), Ramp: api.Ramp{From: -1}}}, api.ErrInvalid},
		{2, 3, []api.Input{long}, api.ErrMismatch}, {1, 3, []api.Input{long}, api.OK},
	} {
		if sums, e := Sum(c.channels, c.frames, c.l); e != c.e || e != api.OK && sums != nil {
			t.Error(i, e)
		}
		good, _ := limiter.New(5, 5)
		if b, m, e := Mix(c.channels, c.frames, c.l, good); e != c.e || e != api.OK && (b.Channels != 0 || b.Data != nil || m != (api.Limit{})) {
			t.Error(i, e)
		}
		if b, m, e := Mix(c.channels, c.frames, c.l, api.Limit{}); (c.e != api.OK && e != c.e || c.e == api.OK && e != api.ErrInvalid) || b.Data != nil || m != (api.Limit{}) {
			t.Error(i, e)
		}
	}
}

// P23.2
func TestMix(t *testing.T) {
	limit, _ := limiter.New(api.MaxSample, 100)
	b, after, e := Mix(1, 1, []api.Input{plain(6000000), plain(6000000)}, limit)
	if e != api.OK || b.Channels != 1 || !slices.Equal(b.Data, []int32{8388427}) || after.Gain != 45812 {
		t.Error(b, after, e)
	}
	b, after, e = Mix(2, 3, nil, limit)
	if e != api.OK || b.Channels != 2 || !slices.Equal(b.Data, make([]int32, 6)) || after != limit {
		t.Error(b, after, e)
	}
	one := api.Input{Block: api.Block{Channels: 2, Data: []int32{1, -2, hi, -hi}}, Matrix: identity(2), Ramp: unit}
	if b, after, e := Mix(2, 2, []api.Input{one}, limit); e != api.OK || !reflect.DeepEqual(b, one.Block) || after != limit {
		t.Error(b, after, e)
	}
}

// P23.2, P23.3: mixing in two parts is the same as mixing at once.
func TestParts(t *testing.T) {
	limit, _ := limiter.New(3000, 700)
	inputs := func(from, to int) []api.Input {
		var l []api.Input
		for k := range 3 {
			x := api.Input{Matrix: identity(1), Ramp: api.Ramp{From: 30000 * k, To: 60000 - 9000*k, Frames: 7 + k}}
			x.Block.Channels = 1
			for i := from; i < to; i++ {
				x.Block.Data = append(x.Block.Data, int32((i*7919+k*104729)%8001-4000))
			}
			x.Ramp, _ = After(x, from)
			l = append(l, x)
		}
		return l
	}
	whole, end, _ := Mix(1, 20, inputs(0, 20), limit)
	for cut := 0; cut <= 20; cut++ {
		x, mid, e := Mix(1, cut, inputs(0, cut), limit)
		y, last, f := Mix(1, 20-cut, inputs(cut, 20), mid)
		if e != api.OK || f != api.OK || last != end || !slices.Equal(slices.Concat(x.Data, y.Data), whole.Data) {
			t.Error(cut)
		}
	}
}

// P23.3
func TestAfter(t *testing.T) {
	x := api.Input{Ramp: api.Ramp{From: 3, To: 9, Frames: 10, At: 4}}
	for frames, at := range map[int]int{0: 4, 1: 5, 6: 10, 7: 10, 65536: 10} {
		want := x.Ramp
		want.At = at
		if r, e := After(x, frames); r != want || e != api.OK || !gain.Valid(r) {
			t.Error(frames, r, e)
		}
	}
	for _, c := range []struct {
		r      api.Ramp
		frames int
		e      api.Errno
	}{{api.Ramp{At: 1}, -1, api.ErrInvalid}, {unit, -1, api.ErrRange}, {unit, 65537, api.ErrRange}} {
		if r, e := After(api.Input{Ramp: c.r}, c.frames); r != (api.Ramp{}) || e != c.e {
			t.Error(c, r, e)
		}
	}
}
