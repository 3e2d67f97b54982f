package limiter

import (
	"slices"
	"testing"

	"soundservice/api"
)

// P8.1
func TestValidAndNew(t *testing.T) {
	for _, c := range []struct {
		l  api.Limit
		ok bool
	}{
		{api.Limit{Threshold: 1, Release: 1}, true},
		{api.Limit{Threshold: api.MaxSample, Release: api.Unit, Gain: api.Unit}, true},
		{api.Limit{Threshold: 0, Release: 1}, false}, {api.Limit{Threshold: api.MaxSample + 1, Release: 1}, false},
		{api.Limit{Threshold: 1, Release: 0}, false}, {api.Limit{Threshold: 1, Release: api.Unit + 1}, false},
		{api.Limit{Threshold: 1, Release: 1, Gain: -1}, false}, {api.Limit{Threshold: 1, Release: 1, Gain: api.Unit + 1}, false},
	} {
		if Valid(c.l) != c.ok {
			t.Error(c)
		}
	}
	if l, e := New(5, 6); e != api.OK || l != (api.Limit{Threshold: 5, Release: 6, Gain: api.Unit}) {
		t.Error(l, e)
	}
	for _, c := range [][2]int{{0, 1}, {-1, 1}, {api.MaxSample + 1, 1}, {1, 0}, {1, api.Unit + 1}, {1, -1}} {
		if l, e := New(c[0], c[1]); e != api.ErrRange || l != (api.Limit{}) {
			t.Error(c, l, e)
		}
	}
}

// P8.2
func TestNeeded(t *testing.T) {
	for _, c := range []struct{ threshold, peak, want int }{
		{100, 0, api.Unit}, {100, 100, api.Unit}, {100, 101, 64887}, {100, 200, 32768}, {api.MaxSample, 12000000, 45812},
		{1, 1 << 40, 0}, {api.MaxSample, 1 << 40, 0}, {api.MaxSample, api.MaxSample, api.Unit}, {api.MaxSample, api.MaxSample + 1, 65535},
		{0, 5, 0}, {-1, 0, 0}, {api.MaxSample + 1, 0, 0}, {100, -1, 0}, {100, 1<<40 + 1, 0}, {100, 1<<63 - 1, 0}, {-1 << 63, -1 << 63, 0},
	} {
		if got := Needed(c.threshold, c.peak); got != c.want {
			t.Error(c, got)
		}
	}
}

// P8.3
func TestRun(t *testing.T) {
	l := api.Limit{Threshold: 100, Release: 1000, Gain: api.Unit}
	b, after, e := Run(l, 1, []int64{200, 50, -100, -1})
	if e != api.OK || b.Channels != 1 || !slices.Equal(b.Data, []int32{100, 25, -53, 0}) || after.Gain != 32768+3000 {
		t.Error(b, after, e)
	}
	b, after, e = Run(l, 2, []int64{7, -300, 100, 100})
	if e != api.OK || b.Channels != 2 || !slices.Equal(b.Data, []int32{2, -99, 34, 34}) || after.Gain != 21845+1000 {
		t.Error(b, after, e)
	}
	b, after, e = Run(l, 3, nil)
	if e != api.OK || b.Channels != 3 || len(b.Data) != 0 || after != l {
		t.Error(b, after, e)
	}
	b, after, _ = Run(api.Limit{Threshold: 100, Release: api.Unit}, 1, []int64{99, 1 << 40, -1 << 40, 100})
	if !slices.Equal(b.Data, []int32{99, 0, 0, 100}) || after.Gain != api.Unit {
		t.Error(b, after)
	}
}

// P8.3: in two parts as at once, never above the threshold.
func TestRunInParts(t *testing.T) {
	l := api.Limit{Threshold: 1000, Release: 300, Gain: 5000}
	var sums []int64
	for i := range 60 {
		sums = append(sums, int64(i*7919%4001-2000))
	}
	whole, end, _ := Run(l, 2, sums)
	for cut := 0; cut <= len(sums); cut += 2 {
		x, mid, _ := Run(l, 2, sums[:cut])
		y, last, _ := Run(mid, 2, sums[cut:])
		if last != end || !slices.Equal(slices.Concat(x.Data, y.Data), whole.Data) {
			t.Error(cut)
		}
	}
	for i, s := range whole.Data {
		if s > 1000 || s < -1000 || int64(s)*sums[i] < 0 {
			t.Error(i, s)
		}
	}
}

// P8.3: errors and their order.
func TestRunErrors(t *testing.T) {
	good := api.Limit{Threshold: 1, Release: 1}
	for _, c := range []struct {
		l        api.Limit
		channels int
		sums     []int64
		e        api.Errno
	}{
		{api.Limit{}, 0, nil, api.ErrInvalid},
		{good, 0, nil, api.ErrRange}, {good, 9, nil, api.ErrRange}, {good, -1, nil, api.ErrRange}, {good, 2, make([]int64, 3), api.ErrRange},
		{good, 1, make([]int64, api.MaxFrames), api.OK}, {good, 8, make([]int64, 8*api.MaxFrames), api.OK}, {good, 8, make([]int64, 8*api.MaxFrames+8), api.ErrRange}, {good, 1, make([]int64, api.MaxFrames+1), api.ErrRange},
		{good, 1, []int64{1<<40 + 1}, api.ErrRange}, {good, 1, []int64{-1<<40 - 1}, api.ErrRange}, {good, 1, []int64{-1 << 63}, api.ErrRange}, {good, 1, []int64{1<<63 - 1}, api.ErrRange},
	} {
		if b, l, e := Run(c.l, c.channels, c.sums); e != c.e || e != api.OK && (b.Channels != 0 || b.Data != nil || l != (api.Limit{})) {
			t.Error(c.l, c.channels, len(c.sums), e)
		}
	}
}
