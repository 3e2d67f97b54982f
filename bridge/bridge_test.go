package bridge

import (
	"reflect"
	"slices"
	"testing"

	"soundservice/api"
	"soundservice/control"
	"soundservice/phase"
	"soundservice/resample"
)

func rat(num, den int64) api.Ratio { return api.Ratio{Num: num, Den: den} }

var loop = api.Control{Target: 10, Dead: 2, Gain: 100, Most: 1000}

func begun(t *testing.T, channels int, base api.Ratio, capacity, fill int) api.Bridge {
	b, e := New(channels, base, loop, capacity, fill)
	if e != api.OK {
		t.Fatal(e)
	}
	return b
}

func isZero(b api.Bridge) bool { return reflect.DeepEqual(b, api.Bridge{}) }

func invalid(t *testing.T) []api.Bridge {
	var l []api.Bridge
	for _, change := range []func(*api.Bridge){
		func(b *api.Bridge) { b.Resample.Channels = 0 },
		func(b *api.Bridge) { b.Resample.Phase.Base.Num = 0 },
		func(b *api.Bridge) { b.Control.Gain = 0 },
		func(b *api.Bridge) { b.Capacity = 3 },
		func(b *api.Bridge) { b.Capacity = 65537 },
		func(b *api.Bridge) { b.Capacity, b.Resample.Rest = 0, nil },
		func(b *api.Bridge) { b.Lost = -1 },
		func(b *api.Bridge) { b.Missed = -1 },
	} {
		b := begun(t, 1, rat(1, 1), 9, 4)
		change(&b)
		l = append(l, b)
	}
	return append(l, api.Bridge{})
}

// P19.1
func TestValidNewFill(t *testing.T) {
	b := begun(t, 2, rat(147, 160), 9, 4)
	r, _ := resample.New(2, rat(147, 160))
	r.Rest = make([]int32, 8)
	if !reflect.DeepEqual(b, api.Bridge{Capacity: 9, Control: loop, Resample: r}) || !Valid(b) || Fill(b) != 4 {
		t.Error(b)
	}
	if least := begun(t, 1, rat(1, 1), 1, 1); !Valid(least) || Fill(least) != 1 {
		t.Error("the least bridge")
	}
	if full := begun(t, 1, rat(1, 1), 65536, 65536); !Valid(full) || Fill(full) != 65536 {
		t.Error("a full bridge")
	}
	for i, b := range invalid(t) {
		if Valid(b) || Fill(b) != 0 {
			t.Error(i)
		}
	}
	for _, c := range []struct {
		channels       int
		base           api.Ratio
		c              api.Control
		capacity, fill int
		e              api.Errno
	}{
		{0, rat(2, 2), api.Control{}, 0, 0, api.ErrRange}, {1, rat(1, 1), loop, 65537, 0, api.ErrRange}, {1, rat(1, 1), loop, 5, 6, api.ErrRange}, {1, rat(1, 1), loop, 5, -1, api.ErrRange},
		{1, rat(1, 1), api.Control{}, 5, 5, api.ErrInvalid}, {0, rat(1, 1), loop, 5, 5, api.ErrInvalid}, {9, rat(1, 1), loop, 5, 5, api.ErrInvalid}, {1, rat(2, 2), loop, 5, 5, api.ErrInvalid}, {1, rat(768001, 1), loop, 5, 0, api.ErrInvalid},
	} {
		if b, e := New(c.channels, c.base, c.c, c.capacity, c.fill); e != c.e || !isZero(b) {
			t.Error(c, b, e)
		}
	}
}

// P19.2
func TestPush(t *testing.T) {
	b := begun(t, 2, rat(1, 1), 3, 1)
	b.Lost = 7
	x, lost, e := Push(b, api.Block{Channels: 2, Data: []int32{1, 2, 3, 4, 5, 6}})
	if e != api.OK || lost != 1 || x.Lost != 8 || !slices.Equal(x.Resample.Rest, []int32{0, 0, 1, 2, 3, 4}) || Fill(x) != 3 || Fill(b) != 1 {
		t.Error(x, lost, e)
	}
	y, lost, e := Push(x, api.Block{Channels: 2})
	if e != api.OK || lost != 0 || !reflect.DeepEqual(x, y) {
		t.Error(y, lost, e)
	}
	y.Resample.Rest[0] = 9
	if x.Resample.Rest[0] != 0 {
		t.Error("shared memory")
	}
	for _, c := range []struct {
		b api.Bridge
		x api.Block
		e api.Errno
	}{{invalid(t)[0], api.Block{Channels: 2}, api.ErrInvalid}, {b, api.Block{}, api.ErrInvalid}, {b, api.Block{Channels: 2, Data: []int32{1}}, api.ErrInvalid}, {b, api.Block{Channels: 1}, api.ErrMismatch}} {
		if x, lost, e := Push(c.b, c.x); e != c.e || lost != 0 || !isZero(x) {
			t.Error(x, lost, e)
		}
	}
}

// P19.3
func TestPull(t *testing.T) {
	b := begun(t, 1, rat(1, 1), 30, 0)
	b.Missed = 5
	out, missing, x, e := Pull(b, 3)
	if e != api.OK || missing != 3 || x.Missed != 8 || out.Channels != 1 || !slices.Equal(out.Data, []int32{0, 0, 0}) {
		t.Error(out, missing, x, e)
	}
	b, _, _ = Push(b, api.Block{Channels: 1, Data: []int32{1000, 2000, 3000, 4000, 5000}})
	want := b.Resample // the fill 5 is 3 too low: the adjustment is -300
	want.Phase, _ = phase.Retune(want.Phase, -300)
	frames, rest, _ := resample.Take(want, 5)
	out, missing, x, e = Pull(b, 6)
	if e != api.OK || missing != 1 || x.Missed != 6 || !slices.Equal(out.Data, append(slices.Clone(frames.Data), 0)) || !reflect.DeepEqual(x.Resample, rest) || x.Resample.Phase.Adjust != -300 {
		t.Error(out, missing, x, e)
	}
	out, missing, x, e = Pull(b, 0)
	if e != api.OK || missing != 0 || len(out.Data) != 0 || x.Resample.Phase.Adjust != -300 || Fill(x) != 5 {
		t.Error(out, missing, x, e)
	}
	x.Resample.Rest[0] = 7
	if b.Resample.Rest[0] != 1000 {
		t.Error("shared memory")
	}
	far := begun(t, 1, rat(1, 1), 30, 12)
	far.Resample.Phase.Pos = 1 << 50
	for _, c := range []struct {
		b api.Bridge
		n int
		e api.Errno
	}{{invalid(t)[1], -1, api.ErrInvalid}, {b, -1, api.ErrRange}, {b, 65537, api.ErrRange}, {far, 5, api.ErrRange}, {far, 0, api.OK}, {b, 65536, api.OK}} {
		out, missing, x, e := Pull(c.b, c.n)
		if e != c.e || e != api.OK && (out.Data != nil || out.Channels != 0 || missing != 0 || !isZero(x)) {
			t.Error(c.n, e)
		}
	}
}

// P19.2, P19.3 and P18.3 to P18.5: a bridge that was planned loses and misses nothing, and its fill stays within the bound.
func TestPlanned(t *testing.T) {
	for _, c := range []struct {
		base, period  api.Ratio
		drift, jitter int
		pulls, pushes func(k int) int // sums after k quanta
	}{
		{rat(1, 1), rat(64, 1), 200, 1, func(k int) int { return 64 * k }, func(k int) int { return 64*k + 64*k*200/65536 }},
		{rat(1, 1), rat(64, 1), 200, 1, func(k int) int { return 64 * k }, func(k int) int { return 64*k - 64*k*200/65536 }},
		{rat(147, 160), rat(64, 1), 64, 6, func(k int) int { return 64*k*160/147 - 64*k*64/65536*160/147 }, func(k int) int { return 64*k + k%3 }},
		{rat(160, 147), rat(256, 1), 30, 5, func(k int) int { return 256*k*147/160 + 256*k*20/65536 }, func(k int) int { return 256 * k }},
	} {
		loop, capacity, e := control.Plan(c.period, c.drift, c.jitter, 16, 16)
		if e != api.OK {
			t.Fatal(e)
		}
		start := int(2*c.period.Num*int64(c.drift)/65536) + c.jitter
		bound, _ := control.Bound(loop, c.period, c.drift, c.jitter, start)
		for _, fill := range []int{loop.Target - start, loop.Target, loop.Target + start} {
			b, e := New(1, c.base, loop, capacity, fill)
			if e != api.OK {
				t.Fatal(e)
			}
			var l []api.Transfer
			for k := range 2000 {
				if d := Fill(b) - loop.Target; max(d, -d) > bound {
					t.Fatal("out of bounds", k, d, bound)
				}
				x := api.Transfer{Pull: c.pulls(k+1) - c.pulls(k), Push: c.pushes(k+1) - c.pushes(k)}
				l = append(l[max(len(l)-255, 0):], x)
				var lost, missing int
				_, missing, b, _ = Pull(b, x.Pull)
				b, lost, _ = Push(b, api.Block{Channels: 1, Data: make([]int32, x.Push)})
				if lost+missing > 0 {
					t.Fatal(k, lost, missing)
				}
			}
			if !control.Declared(c.base, c.period, c.drift, c.jitter, l) {
				t.Error("this test does not declare what it does")
			}
		}
	}
}

// P19.3: without drift what was pushed comes out, after the frames at the beginning.
func TestThrough(t *testing.T) {
	b := begun(t, 1, rat(1, 1), 30, 8)
	var in, out []int32
	for k := range 50 {
		data := []int32{int32(3 * k), int32(3*k + 1), int32(3*k + 2)}
		in = append(in, data...)
		b, _, _ = Push(b, api.Block{Channels: 1, Data: data})
		var x api.Block
		x, _, b, _ = Pull(b, 3)
		out = append(out, x.Data...)
	}
	if !slices.Equal(out, append(make([]int32, 8), in...)[:len(out)]) {
		t.Error(out)
	}
}
