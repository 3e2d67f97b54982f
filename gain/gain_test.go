package gain

import (
	"slices"
	"testing"

	"soundservice/api"
)

const (
	lo     = -1 << 23
	hi     = 1<<23 - 1
	maxInt = 1<<63 - 1
	minInt = -1 << 63
)

// P5.1
func TestApply(t *testing.T) {
	for _, c := range []struct {
		s    int32
		g    int
		want int32
	}{
		{100, api.Unit, 100}, {-7, api.Unit, -7}, {hi, api.Unit, hi}, {lo, api.Unit, lo}, {100, 0, 0},
		{1, 32768, 1}, {-1, 32768, 0}, {3, 32768, 2}, {-3, 32768, -1}, {1, 32767, 0},
		{hi, api.MaxGain, hi}, {lo, api.MaxGain, lo}, {10, api.MaxGain, 40},
		{hi + 1, api.Unit, 0}, {lo - 1, api.Unit, 0}, {-1 << 31, 1, 0}, {5, -1, 0}, {5, api.MaxGain + 1, 0}, {5, minInt, 0}, {5, maxInt, 0},
	} {
		if got := Apply(c.s, c.g); got != c.want {
			t.Error(c, got)
		}
	}
}

// P5.1
func TestMulAndVolume(t *testing.T) {
	for _, c := range []struct{ a, b, want int }{
		{api.Unit, api.Unit, api.Unit}, {0, api.Unit, 0}, {1, 32768, 1}, {1, 32767, 0}, {3, 32768, 2},
		{api.MaxGain, api.Unit, api.MaxGain}, {api.MaxGain, api.MaxGain, api.MaxGain}, {api.MaxGain, api.Unit / 4, api.Unit},
		{-1, api.Unit, 0}, {api.Unit, -1, 0}, {api.MaxGain + 1, 1, 0}, {maxInt, maxInt, 0}, {minInt, 1, 0},
	} {
		if got := Mul(c.a, c.b); got != c.want {
			t.Error(c, got)
		}
	}
	for v, want := range map[int]int{0: 0, 50: 8192, 100: api.Unit, 99: 63589, 1: 0, 2: 0, 3: 1, -1: 0, 101: api.Unit, maxInt: api.Unit, minInt: 0} {
		if Volume(v) != want {
			t.Error(v, Volume(v))
		}
	}
}

// P5.2
func TestValidRamps(t *testing.T) {
	for _, c := range []struct {
		r  api.Ramp
		ok bool
	}{
		{api.Ramp{}, true},
		{api.Ramp{From: api.MaxGain, To: api.MaxGain, Frames: api.MaxFrames * 64, At: api.MaxFrames * 64}, true},
		{api.Ramp{From: -1}, false}, {api.Ramp{From: api.MaxGain + 1}, false},
		{api.Ramp{To: -1}, false}, {api.Ramp{To: api.MaxGain + 1}, false},
		{api.Ramp{Frames: -1, At: -1}, false}, {api.Ramp{Frames: api.MaxFrames*64 + 1}, false},
		{api.Ramp{Frames: 3, At: 4}, false}, {api.Ramp{Frames: 3, At: -1}, false},
	} {
		if Valid(c.r) != c.ok {
			t.Error(c)
		}
		if !c.ok && At(c.r, 0) != 0 {
			t.Error(c)
		}
	}
}

// P5.2
func TestAt(t *testing.T) {
	up := api.Ramp{From: 0, To: api.Unit, Frames: 4}
	for i, want := range []int{0, 16384, 32768, 49152, 65536, 65536} {
		if At(up, i) != want {
			t.Error(i, At(up, i))
		}
	}
	down := api.Ramp{From: 10, To: 0, Frames: 3, At: 1}
	for i, want := range []int{6, 3, 0, 0} { // 10 - 10/3 and 10 - 20/3, downwards
		if At(down, i) != want {
			t.Error(i, At(down, i))
		}
	}
	even := api.Ramp{From: 10, To: 0, Frames: 5}
	for i, want := range []int{10, 8, 6, 4, 2, 0} {
		if At(even, i) != want {
			t.Error(i, At(even, i))
		}
	}
	if At(api.Ramp{From: 5, To: 9}, 0) != 9 || At(up, maxInt) != api.Unit || At(down, maxInt) != 0 {
		t.Error("the end of a ramp")
	}
	if At(up, -1) != 0 || At(down, minInt) != 0 {
		t.Error("negative frames")
	}
}

// P5.3
func TestRun(t *testing.T) {
	r := api.Ramp{From: api.Unit, To: 0, Frames: 4, At: 1}
	b := api.Block{Channels: 2, Data: []int32{100, -100, 100, -100, 100, -100, 100, -100, 100, -100}}
	whole, end, e := Run(r, b)
	if e != api.OK || end != (api.Ramp{From: api.Unit, To: 0, Frames: 4, At: 4}) || whole.Channels != 2 || !slices.Equal(whole.Data, []int32{75, -75, 50, -50, 25, -25, 0, 0, 0, 0}) {
		t.Error(whole, end, e)
	}
	for cut := 0; cut <= 10; cut += 2 {
		x, mid, e := Run(r, api.Block{Channels: 2, Data: b.Data[:cut]})
		y, last, f := Run(mid, api.Block{Channels: 2, Data: b.Data[cut:]})
		if e != api.OK || f != api.OK || last != end || !slices.Equal(slices.Concat(x.Data, y.Data), whole.Data) {
			t.Error(cut, x, y, mid, last)
		}
	}
	if b.Data[0] != 100 {
		t.Error("the argument was changed")
	}
	for _, c := range []struct {
		r api.Ramp
		b api.Block
	}{{api.Ramp{From: -1}, b}, {r, api.Block{}}, {r, api.Block{Channels: 2, Data: make([]int32, 1)}}} {
		if x, y, e := Run(c.r, c.b); e != api.ErrInvalid || x.Data != nil || x.Channels != 0 || y != (api.Ramp{}) {
			t.Error(c, x, y, e)
		}
	}
}

// P5.4
func TestRetarget(t *testing.T) {
	r := api.Ramp{From: 0, To: api.Unit, Frames: 4, At: 2}
	if x, e := Retarget(r, 7, 9); e != api.OK || x != (api.Ramp{From: 32768, To: 7, Frames: 9}) {
		t.Error(x, e)
	}
	if x, e := Retarget(r, 0, 0); e != api.OK || x != (api.Ramp{From: 32768}) {
		t.Error(x, e)
	}
	if x, e := Retarget(r, api.MaxGain, api.MaxFrames*64); e != api.OK || !Valid(x) {
		t.Error(x, e)
	}
	for _, c := range []struct {
		r          api.Ramp
		to, frames int
	}{{api.Ramp{At: 1}, 0, 0}, {r, -1, 0}, {r, api.MaxGain + 1, 0}, {r, 0, -1}, {r, 0, api.MaxFrames*64 + 1}} {
		if x, e := Retarget(c.r, c.to, c.frames); e != api.ErrInvalid || x != (api.Ramp{}) {
			t.Error(c, x, e)
		}
	}
}
