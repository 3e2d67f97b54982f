package device

import (
	"reflect"
	"slices"
	"testing"

	"soundservice/api"
	"soundservice/bridge"
	"soundservice/clock"
	"soundservice/control"
	"soundservice/sample"
)

func rat(num, den int64) api.Ratio { return api.Ratio{Num: num, Den: den} }

func span(lo, hi int) api.IntSet { return api.IntSet{Spans: []api.Span{{Lo: lo, Hi: hi}}} }

func describes(direction int) api.Descriptor {
	return api.Descriptor{ID: 7, Name: "d", Direction: direction, Latency: 100, Drift: 20, Jitter: 2, Boxes: []api.Box{{Kinds: 254, Rates: span(1000, 768000), Maps: [][]int{{1, 2}, {3}}, Sizes: span(1, 4096)}}}
}

func choose(rate int, m ...int) api.Choice {
	return api.Choice{Format: api.Format{Kind: api.S24LE, Rate: rate, Map: m}, Size: 64}
}

func steady(r api.Ratio) api.Clock { return api.Clock{Segments: []api.Segment{{Rate: r}}} }

func opened(t *testing.T, direction, rate int, r api.Ratio) api.Device {
	d, e := Open(describes(direction), choose(rate, 1, 2), steady(r), 48000, 64)
	if e != api.OK {
		t.Fatal(e)
	}
	return d
}

func started(t *testing.T, direction, rate int, r api.Ratio, at int64) api.Device {
	d, e := Start(opened(t, direction, rate, r), at)
	if e != api.OK {
		t.Fatal(e)
	}
	return d
}

func isZero(d api.Device) bool { return reflect.DeepEqual(d, api.Device{}) }

func invalid(t *testing.T) []api.Device {
	var l []api.Device
	for _, direction := range []int{api.Playback, api.Capture} {
		for _, change := range []func(*api.Device){
			func(d *api.Device) { d.Descriptor.Name = "" },
			func(d *api.Device) { d.Descriptor.Direction = 3 - d.Descriptor.Direction },
			func(d *api.Device) { d.Choice.Format.Rate = 44101 },
			func(d *api.Device) { d.Choice.Format.Rate = 999 },
			func(d *api.Device) { d.Choice.Size = 4097 },
			func(d *api.Device) { d.Choice.Format.Map = []int{3} },
			func(d *api.Device) { d.Rate = 7999 },
			func(d *api.Device) { d.Rate = 192001 },
			func(d *api.Device) { d.Rate = 96000 },
			func(d *api.Device) { d.Period = 15 },
			func(d *api.Device) { d.Period = 8193 },
			func(d *api.Device) { d.Clock.Segments = nil },
			func(d *api.Device) { d.Since = -1 },
			func(d *api.Device) { d.Since = api.MaxTime + 1 },
			func(d *api.Device) { d.Bridge.Capacity = 0 },
			func(d *api.Device) { d.Bridge.Resample.Channels, d.Bridge.Resample.Rest = 1, nil },
			func(d *api.Device) { d.Bridge.Resample.Phase.Base = rat(7, 5) },
		} {
			d := started(t, direction, 44100, rat(147, 160), 0)
			change(&d)
			l = append(l, d)
		}
	}
	return append(l, api.Device{})
}

// P21.1, and ErrInvalid of all functions.
func TestInvalid(t *testing.T) {
	for i, d := range invalid(t) {
		if Valid(d) {
			t.Error(i)
		}
		if r, e := Nominal(d); e != api.ErrInvalid || r != (api.Ratio{}) {
			t.Error(i, r, e)
		}
		if x, e := Start(d, -1); e != api.ErrInvalid || !isZero(x) {
			t.Error(i, e)
		}
		if n, e := Due(d, -1, 0); e != api.ErrInvalid || n != 0 {
			t.Error(i, n, e)
		}
		if b, lost, missing, x, e := Play(d, api.Block{Channels: 5}, -1, 0); e != api.ErrInvalid || b.Channels+lost+missing != 0 || !isZero(x) {
			t.Error(i, e)
		}
		if b, lost, missing, x, e := Record(d, api.Block{Channels: 5}, -1, -1, 0); e != api.ErrInvalid || b.Channels+lost+missing != 0 || !isZero(x) {
			t.Error(i, e)
		}
		if n, e := Latency(d); e != api.ErrInvalid || n != 0 {
			t.Error(i, n, e)
		}
		if Keeps(d, nil) {
			t.Error(i)
		}
	}
}

// P21.2
func TestOpen(t *testing.T) {
	for _, c := range []struct {
		direction, rate int
		base, inputs    api.Ratio
		jitter          int
	}{
		{api.Playback, 44100, rat(160, 147), rat(64, 1), 4}, {api.Playback, 48000, rat(1, 1), rat(64, 1), 3}, {api.Playback, 96000, rat(1, 2), rat(64, 1), 2},
		{api.Capture, 44100, rat(147, 160), rat(294, 5), 3}, {api.Capture, 96000, rat(2, 1), rat(128, 1), 3},
	} {
		clk := steady(rat(1, 1))
		d, e := Open(describes(c.direction), choose(c.rate, 1, 2), clk, 48000, 64)
		whole := int((c.inputs.Num + c.inputs.Den - 1) / c.inputs.Den)
		loop, capacity, _ := control.Plan(c.inputs, 20, c.jitter, whole/4, 16)
		b, _ := bridge.New(2, c.base, loop, capacity, loop.Target-whole)
		want := api.Device{Descriptor: describes(c.direction), Choice: choose(c.rate, 1, 2), Rate: 48000, Period: 64, Clock: clk, Bridge: b}
		if e != api.OK || !reflect.DeepEqual(d, want) || !Valid(d) {
			t.Error(c, d, e)
		}
		d.Clock.Segments[0].From = 9
		if clk.Segments[0].From != 0 {
			t.Error("shared memory")
		}
		if n, e := Nominal(want); e != api.OK || n.Num*48000 != n.Den*int64(c.rate) {
			t.Error(n, e)
		}
	}
}

// P21.2: errors and their order.
func TestOpenErrors(t *testing.T) {
	good, clk := describes(api.Playback), steady(rat(1, 1))
	wild := good
	wild.Jitter = 4096
	loose := good
	loose.Drift = api.MaxAdjust / 2
	for i, c := range []struct {
		d            api.Descriptor
		c            api.Choice
		clk          api.Clock
		rate, period int
		e            api.Errno
	}{
		{api.Descriptor{}, api.Choice{}, clk, 48000, 64, api.ErrInvalid}, {good, api.Choice{}, api.Clock{}, 48000, 64, api.ErrInvalid},
		{good, api.Choice{}, clk, 7999, 64, api.ErrInvalid}, {good, api.Choice{}, clk, 192001, 64, api.ErrInvalid}, {good, api.Choice{}, clk, 48000, 15, api.ErrInvalid}, {good, api.Choice{}, clk, 48000, 8193, api.ErrInvalid},
		{good, choose(48000, 2, 1), clk, 48000, 64, api.ErrMissing}, {good, choose(999, 1, 2), clk, 192000, 64, api.ErrMissing},
		{good, choose(1000, 1, 2), clk, 192000, 64, api.ErrMismatch}, {good, choose(2999, 1, 2), clk, 192000, 64, api.ErrMismatch}, {good, choose(3000, 1, 2), clk, 192000, 64, api.OK},
		{good, choose(512001, 1, 2), clk, 8000, 64, api.ErrMismatch}, {good, choose(512000, 1, 2), clk, 8000, 64, api.OK},
		{wild, choose(3000, 1, 2), clk, 192000, 64, api.ErrInvalid}, {wild, choose(12000, 1, 2), clk, 192000, 64, api.ErrInvalid}, {wild, choose(48000, 1, 2), clk, 192000, 64, api.ErrLimit}, {wild, choose(48000, 1, 2), clk, 48000, 64, api.OK},
		{loose, choose(48000, 1, 2), clk, 48000, 8192, api.OK}, {good, choose(48000, 1, 2), clk, 8000, 16, api.OK}, {good, choose(48000, 1, 2), clk, 192000, 16, api.OK},
	} {
		if d, e := Open(c.d, c.c, c.clk, c.rate, c.period); e != c.e || e != api.OK && !isZero(d) || e == api.OK && !Valid(d) {
			t.Error(i, e, c.e)
		}
	}
}

// P21.3
func TestStart(t *testing.T) {
	d := opened(t, api.Playback, 44100, rat(1, 1))
	want := d
	want.Running, want.Since = true, 640
	x, e := Start(d, 640)
	if e != api.OK || !reflect.DeepEqual(x, want) {
		t.Error(x, e)
	}
	x.Bridge.Resample.Rest[0], x.Clock.Segments[0].From, x.Descriptor.Boxes[0].Kinds = 9, 9, 9
	if d.Bridge.Resample.Rest[0] != 0 || d.Clock.Segments[0].From != 0 || d.Descriptor.Boxes[0].Kinds != 254 {
		t.Error("shared memory")
	}
	for _, c := range []struct {
		d api.Device
		t int64
		e api.Errno
	}{{d, -1, api.ErrRange}, {want, api.MaxTime + 1, api.ErrRange}, {want, 63, api.ErrMismatch}, {want, 64, api.ErrState}, {d, api.MaxTime, api.OK}} {
		if x, e := Start(c.d, c.t); e != c.e || e != api.OK && !isZero(x) {
			t.Error(c.t, e)
		}
	}
}

// P21.4
func TestDue(t *testing.T) {
	d := started(t, api.Playback, 44100, rat(147, 160), 320)
	still := opened(t, api.Playback, 44100, rat(147, 160))
	fast := started(t, api.Playback, 44100, rat(1024, 1), 0)
	for _, c := range []struct {
		d        api.Device
		from, to int64
		n        int
		e        api.Errno
	}{
		{d, 320, 480, 147, api.OK}, {d, 0, 480, 147, api.OK}, {d, 0, 320, 0, api.OK}, {d, 0, 0, 0, api.OK}, {d, 0, 321, 0, api.OK}, {d, 400, 500, 459 - 367, api.OK}, {still, 0, 1600, 0, api.OK},
		{fast, 0, 64, 65536, api.OK}, {fast, 0, 65, 0, api.ErrLimit}, {fast, 1, 65, 65536, api.OK}, {still, 0, api.MaxTime, 0, api.OK}, {d, 0, api.MaxTime, 0, api.ErrLimit},
		{still, -1, 0, 0, api.ErrRange}, {fast, 0, api.MaxTime + 1, 0, api.ErrRange}, {d, 5, 4, 0, api.ErrRange},
	} {
		if n, e := Due(c.d, c.from, c.to); n != c.n || e != c.e {
			t.Error(c.from, c.to, n, e, c.n, c.e)
		}
	}
}

func sound(frames int) api.Block {
	b, _ := sample.Silence(2, frames)
	for i := range b.Data {
		b.Data[i] = int32(i + 1)
	}
	return b
}

// P21.5
func TestPlay(t *testing.T) {
	d := started(t, api.Playback, 44100, rat(147, 160), 0)
	pushed, lost, _ := bridge.Push(d.Bridge, sound(64))
	out, missing, after, _ := bridge.Pull(pushed, 58)
	want := d
	want.Bridge = after
	b, l, m, x, e := Play(d, sound(64), 0, 64)
	if e != api.OK || l != lost || m != missing || !reflect.DeepEqual(b, out) || !reflect.DeepEqual(x, want) {
		t.Error(b, l, m, e)
	}
	big := sound(1000)
	_, l, _, _, e = Play(d, big, 0, 64)
	if _, lost, _ := bridge.Push(d.Bridge, big); e != api.OK || l != lost || lost == 0 {
		t.Error(l, lost, e)
	}
	_, _, m, _, e = Play(d, sound(0), 0, 640)
	if pushed, _, _ := bridge.Push(d.Bridge, sound(0)); e == api.OK {
		if _, missing, _, _ := bridge.Pull(pushed, 588); m != missing || m == 0 {
			t.Error(m, missing)
		}
	}
	still := opened(t, api.Playback, 44100, rat(147, 160))
	b, l, m, x, e = Play(still, sound(64), 0, 64)
	if e != api.OK || b.Channels != 2 || len(b.Data) != 0 || l+m != 0 || !reflect.DeepEqual(x, still) {
		t.Error(b, l, m, e)
	}
	x.Bridge.Resample.Rest[0] = 9
	if still.Bridge.Resample.Rest[0] != 0 {
		t.Error("shared memory")
	}
	far := d
	far.Bridge.Resample.Phase.Pos = 1 << 50
	for i, c := range []struct {
		d        api.Device
		b        api.Block
		from, to int64
		e        api.Errno
	}{
		{d, api.Block{}, 0, 64, api.ErrInvalid}, {d, api.Block{Channels: 1, Data: []int32{1 << 30}}, 0, 64, api.ErrInvalid}, {started(t, api.Capture, 44100, rat(1, 1), 0), sound(1), 0, 64, api.ErrInvalid},
		{d, api.Block{Channels: 1}, -1, 64, api.ErrMismatch}, {d, sound(1), -1, 64, api.ErrRange}, {still, sound(1), 64, 0, api.ErrRange}, {d, sound(1), 0, 1 << 30, api.ErrLimit}, {far, sound(1), 0, 64, api.ErrRange},
	} {
		if b, l, m, x, e := Play(c.d, c.b, c.from, c.to); e != c.e || b.Channels+l+m != 0 || b.Data != nil || !isZero(x) {
			t.Error(i, e)
		}
	}
}

// P21.6
func TestRecord(t *testing.T) {
	d := started(t, api.Capture, 44100, rat(147, 160), 0)
	pushed, lost, _ := bridge.Push(d.Bridge, sound(58))
	out, missing, after, _ := bridge.Pull(pushed, 64)
	want := d
	want.Bridge = after
	b, l, m, x, e := Record(d, sound(58), 64, 0, 64)
	if e != api.OK || l != lost || m != missing || !reflect.DeepEqual(b, out) || !reflect.DeepEqual(x, want) {
		t.Error(b, l, m, e)
	}
	_, l, m, _, e = Record(d, sound(1470), 64, 0, 1600)
	if e != api.OK || l == 0 || m != 0 {
		t.Error(l, m, e)
	}
	_, l, m, _, e = Record(d, sound(0), 640, 0, 0)
	if e != api.OK || l != 0 || m == 0 {
		t.Error(l, m, e)
	}
	still := opened(t, api.Capture, 44100, rat(147, 160))
	b, l, m, x, e = Record(still, sound(99), 64, 0, 64)
	if silence, _ := sample.Silence(2, 64); e != api.OK || !reflect.DeepEqual(b, silence) || l+m != 0 || !reflect.DeepEqual(x, still) {
		t.Error(b, l, m, e)
	}
	x.Bridge.Resample.Rest[0], x.Clock.Segments[0].From, x.Descriptor.Boxes[0].Kinds = 9, 9, 9
	if still.Bridge.Resample.Rest[0] != 0 || still.Clock.Segments[0].From != 0 || still.Descriptor.Boxes[0].Kinds != 254 {
		t.Error("shared memory")
	}
	for i, c := range []struct {
		d        api.Device
		b        api.Block
		n        int
		from, to int64
		e        api.Errno
	}{
		{d, api.Block{}, -1, 0, 64, api.ErrInvalid}, {started(t, api.Playback, 44100, rat(1, 1), 0), sound(1), -1, 0, 64, api.ErrInvalid},
		{d, api.Block{Channels: 1}, -1, -1, 64, api.ErrMismatch}, {d, sound(1), -1, -1, 64, api.ErrRange}, {d, sound(1), -1, 0, 1 << 30, api.ErrLimit},
		{d, sound(57), -1, 0, 64, api.ErrShort}, {d, sound(59), 64, 0, 64, api.ErrShort}, {d, sound(58), -1, 0, 64, api.ErrRange}, {still, sound(1), 65537, 0, 64, api.ErrRange},
	} {
		if b, l, m, x, e := Record(c.d, c.b, c.n, c.from, c.to); e != c.e || b.Channels+l+m != 0 || b.Data != nil || !isZero(x) {
			t.Error(i, e)
		}
	}
}

// P21.7
func TestLatency(t *testing.T) {
	for _, c := range []struct{ direction, rate, air int }{{api.Playback, 48000, 100}, {api.Playback, 44100, 109}, {api.Playback, 96000, 50}, {api.Capture, 44100, 109}, {api.Capture, 48000, 100}} {
		d := opened(t, c.direction, c.rate, rat(1, 1))
		q := (d.Bridge.Capacity + 63) / 64
		if c.direction == api.Capture {
			inputs := 64 * c.rate // times 48000
			q = ((d.Bridge.Capacity+3)*65536*48000 + inputs*65516 - 1) / (inputs * 65516)
		}
		if n, e := Latency(d); e != api.OK || n != (q+1)*64+c.air {
			t.Error(c, n, e, q)
		}
	}
	for _, drift := range []int{0, 7, 1000, 2048} { // all capacities, with all rests
		play, record := opened(t, api.Playback, 44100, rat(1, 1)), opened(t, api.Capture, 44100, rat(1, 1))
		play.Descriptor.Drift, record.Descriptor.Drift = drift, drift
		for capacity := 2000; capacity < 2200; capacity++ {
			play.Bridge.Capacity, record.Bridge.Capacity = capacity, capacity
			inputs := 64 * 147 // times 160
			q := ((capacity+3)*65536*160 + inputs*(65536-drift) - 1) / (inputs * (65536 - drift))
			if n, e := Latency(record); e != api.OK || n != (q+1)*64+109 {
				t.Error(drift, capacity, n, e)
			}
			if n, e := Latency(play); e != api.OK || n != ((capacity+63)/64+1)*64+109 {
				t.Error(drift, capacity, n, e)
			}
		}
	}
	d := opened(t, api.Playback, 48000, rat(1, 1))
	d.Descriptor.Latency, d.Bridge.Capacity = 0, 65536
	if n, e := Latency(d); e != api.OK || n != 1025*64 {
		t.Error(n, e)
	}
	d.Bridge.Capacity = 65535
	if n, e := Latency(d); e != api.OK || n != 1025*64 {
		t.Error(n, e)
	}
}

// P21.8
func TestKeeps(t *testing.T) {
	play, record := opened(t, api.Playback, 44100, rat(1, 1)), opened(t, api.Capture, 44100, rat(1, 1))
	same := func(n, pull, push int) []api.Transfer {
		return slices.Repeat([]api.Transfer{{Pull: pull, Push: push}}, n)
	}
	// 59 device frames are 64.2 master frames.
	if !Keeps(play, nil) || !Keeps(play, same(20, 59, 64)) || Keeps(play, same(21, 59, 64)) || !Keeps(record, same(16, 64, 59)) || Keeps(record, same(17, 64, 59)) || Keeps(play, same(257, 59, 64)) {
		t.Error("Keeps")
	}
	if Keeps(play, []api.Transfer{{Pull: -1, Push: 64}}) {
		t.Error("negative frames")
	}
}

// The consequence of chapter 21: a device whose clock keeps to what its descriptor declares loses and misses nothing, and no frame stays for more than q quanta.
func TestNothingLost(t *testing.T) {
	for _, rate := range []int{8000, 44100, 48000, 96000} {
		for _, fast := range []int64{-19, 0, 20} {
			c, e := clock.New(reduced(int64(rate)*(65536+fast), 48000*65536))
			if e != api.OK {
				t.Fatal(e)
			}
			playsAll(t, rate, c)
			recordsAll(t, rate, c)
		}
	}
}

func reduced(num, den int64) api.Ratio {
	a, b := num, den
	for b != 0 {
		a, b = b, a%b
	}
	return rat(num/a, den/a)
}

func playsAll(t *testing.T, rate int, c api.Clock) {
	d, e := Open(describes(api.Playback), choose(rate, 1, 2), c, 48000, 64)
	d, f := Start(d, 128)
	if e != api.OK || f != api.OK {
		t.Fatal(e, f)
	}
	nominal, _ := Nominal(d)
	if !clock.Keeps(c, nominal, 20, 2, 64, 128, 64*600) {
		t.Fatal("this clock does not keep to what it declares", rate)
	}
	for k := int64(2); k < 600; k++ {
		var lost, missing int
		_, lost, missing, d, e = Play(d, sound(64), 64*k, 64*k+64)
		if e != api.OK || lost+missing > 0 {
			t.Fatal(rate, k, lost, missing, e)
		}
	}
}

func recordsAll(t *testing.T, rate int, c api.Clock) {
	d, _ := Open(describes(api.Capture), choose(rate, 1, 2), c, 48000, 64)
	d, _ = Start(d, 128)
	for k := int64(2); k < 600; k++ {
		n, e := Due(d, 64*k, 64*k+64)
		if e != api.OK {
			t.Fatal(e)
		}
		var lost, missing int
		_, lost, missing, d, e = Record(d, sound(n), 64, 64*k, 64*k+64)
		if e != api.OK || lost+missing > 0 {
			t.Fatal(rate, k, lost, missing, e)
		}
	}
}
