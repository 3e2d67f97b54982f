package engine

import (
	"reflect"
	"slices"
	"testing"

	"soundservice/api"
	"soundservice/device"
	"soundservice/fresh"
	"soundservice/gain"
	"soundservice/limiter"
	"soundservice/matrix"
	"soundservice/mixture"
	"soundservice/stream"
)

const period = 64

var stereo, mono = []int{1, 2}, []int{3}

func span1(lo, hi int) api.IntSet { return api.IntSet{Spans: []api.Span{{Lo: lo, Hi: hi}}} }

func steady(num, den int64) api.Clock {
	return api.Clock{Segments: []api.Segment{{Rate: api.Ratio{Num: num, Den: den}}}}
}

// opened is a device at 48000 with a map.
func opened(id uint64, direction int, c api.Clock, m []int) api.Device {
	d := api.Descriptor{ID: id, Name: "d", Direction: direction, Drift: 20, Boxes: []api.Box{{Kinds: 254, Rates: span1(1000, 96000), Maps: [][]int{stereo, mono}, Sizes: span1(1, 4096)}}}
	out, e := device.Open(d, api.Choice{Format: api.Format{Kind: 2, Rate: 48000, Map: m}, Size: 64}, c, 48000, period)
	if e != api.OK {
		panic("this device does not open")
	}
	return out
}

func limit() api.Limit {
	l, _ := limiter.New(8000000, 1000)
	return l
}

func must(e api.Engine, err api.Errno) api.Engine {
	if err != api.OK || !Valid(e) {
		panic("this step must not fail")
	}
	return e
}

// example has the outlets 5 (playback, stereo), 6 (capture, mono) and 9 (playback, mono), and the voices 2 and 3 on 5, 4 on 6, 7 on 9, and 8 on none.
func example() api.Engine {
	e := must(New(48000, period))
	e.Now = 10
	e = must(Host(e, opened(9, api.Playback, steady(1, 1), mono), limit()))
	e = must(Host(e, opened(5, api.Playback, steady(1, 1), stereo), limit()))
	e = must(Host(e, opened(6, api.Capture, steady(1, 1), mono), limit()))
	for _, v := range []struct {
		id, direction int
		m             []int
		rate          int
		device        uint64
	}{{7, 1, stereo, 48000, 9}, {3, 1, mono, 48000, 5}, {4, 2, stereo, 24000, 6}, {2, 1, stereo, 44100, 5}, {8, 1, stereo, 48000, 0}} {
		e = must(Open(e, v.id, v.direction, v.m, v.rate, 300, 10))
		e = must(Route(e, v.id, v.device))
	}
	return e
}

func isZero(e api.Engine) bool { return reflect.DeepEqual(e, api.Engine{}) }

func invalid() []api.Engine {
	var l []api.Engine
	for _, change := range []func(*api.Engine){
		func(e *api.Engine) { e.Rate = 7999 }, func(e *api.Engine) { e.Rate = 192001 }, func(e *api.Engine) { e.Rate = 96000 }, func(e *api.Engine) { e.Period = 15 }, func(e *api.Engine) { e.Period = 8193 }, func(e *api.Engine) { e.Period = 128 },
		func(e *api.Engine) { e.Now = -1 }, func(e *api.Engine) { e.Now = api.MaxTime / period },
		func(e *api.Engine) { slices.Reverse(e.Outlets) }, func(e *api.Engine) { e.Outlets[0].Device.Descriptor.ID = 0 }, func(e *api.Engine) { e.Outlets[1].Device.Descriptor.ID = 5 },
		func(e *api.Engine) { e.Outlets[0].Device.Running = false }, func(e *api.Engine) { e.Outlets[0].Device.Since = -1 }, func(e *api.Engine) { e.Outlets[0].Limit.Threshold = 0 },
		func(e *api.Engine) { e.Outlets[0].Device.Descriptor.ID = 4 },
		func(e *api.Engine) { slices.Reverse(e.Voices) }, func(e *api.Engine) { e.Voices[0].ID = 0 }, func(e *api.Engine) { e.Voices[1].ID = 2 }, func(e *api.Engine) { e.Voices[4].ID = 1<<53 + 1 },
		func(e *api.Engine) { e.Voices[0].Map = []int{1, 1} }, func(e *api.Engine) { e.Voices[0].Map = []int{2, 1} }, func(e *api.Engine) { e.Voices[4].Map = mono }, func(e *api.Engine) { e.Voices[0].Rate = 999 }, func(e *api.Engine) { e.Voices[0].Rate = 44101 },
		func(e *api.Engine) { e.Voices[0].Stream.State = 0 }, func(e *api.Engine) { e.Voices[0].Stream.Direction = 2 },
		func(e *api.Engine) { e.Voices[0].Device = 7 }, func(e *api.Engine) { e.Voices[0].Device = 6 }, func(e *api.Engine) { e.Voices[2].Device = 5 }, func(e *api.Engine) { e.Voices[0].Device = 9 },
		func(e *api.Engine) { e.Voices[0].Matrix.Coef[1] = 1 }, func(e *api.Engine) { e.Voices[3].Matrix = api.Matrix{} }, func(e *api.Engine) { e.Voices[0].Ramp.At = 1 },
		func(e *api.Engine) {
			for id := 30; len(e.Voices) < 25; id++ {
				v := fresh.Voice(e.Voices[4])
				v.ID = id
				e.Voices = append(e.Voices, v)
			}
		},
		func(e *api.Engine) {
			for id := uint64(30); len(e.Outlets) < 9; id++ {
				o := fresh.Outlet(e.Outlets[2])
				o.Device.Descriptor.ID = id
				e.Outlets = append(e.Outlets, o)
			}
		},
	} {
		e := fresh.Engine(base)
		change(&e)
		l = append(l, e)
	}
	return append(l, api.Engine{})
}

var base = example()

// P28.1
func TestValidAndNew(t *testing.T) {
	if !Valid(base) {
		t.Error("the example")
	}
	late := fresh.Engine(base)
	late.Now = api.MaxTime/period - 1
	if !Valid(late) {
		t.Error("the last quantum")
	}
	first := must(Open(must(Host(must(New(48000, period)), opened(1, api.Playback, steady(1, 1), mono), limit())), 1, api.Playback, mono, 48000, 10, 0))
	twin := fresh.Engine(first)
	twin.Voices = nil
	twin.Outlets = append(twin.Outlets, fresh.Outlet(twin.Outlets[0]))
	if !Valid(first) || Valid(twin) {
		t.Error("the IDs 1, and one ID twice")
	}
	twin.Outlets[0].Device.Descriptor.ID = 2
	if Valid(twin) {
		t.Error("descending IDs")
	}
	if x, err := Close(first, 1); err != api.OK || len(x.Voices) != 0 {
		t.Error(err)
	}
	for i, e := range invalid() {
		if Valid(e) {
			t.Error(i)
		}
	}
	if e, err := New(8000, 8192); err != api.OK || !reflect.DeepEqual(e, api.Engine{Rate: 8000, Period: 8192}) {
		t.Error(e, err)
	}
	for _, c := range [][2]int{{7999, 64}, {192001, 64}, {48000, 15}, {48000, 8193}, {48000, 0}, {48000, -1}} {
		if e, err := New(c[0], c[1]); err != api.ErrRange || !isZero(e) {
			t.Error(c, err)
		}
	}
}

// P28.2 to P28.5: ErrInvalid comes first.
func TestInvalid(t *testing.T) {
	for i, e := range invalid() {
		for k, f := range []func() (api.Engine, api.Errno){
			func() (api.Engine, api.Errno) { return Host(e, base.Outlets[0].Device, limit()) },
			func() (api.Engine, api.Errno) { return Drop(e, 77) },
			func() (api.Engine, api.Errno) { return Open(e, 0, 0, nil, 0, 0, 0) },
			func() (api.Engine, api.Errno) { return Close(e, 77) },
			func() (api.Engine, api.Errno) { return Route(e, 77, 77) },
			func() (api.Engine, api.Errno) { return Shape(e, 77, api.Ramp{}) },
			func() (api.Engine, api.Errno) { return Do(e, 77, 77) },
			func() (api.Engine, api.Errno) { return Write(e, 77, api.Block{}) },
			func() (api.Engine, api.Errno) { _, x, err := Read(e, 77, -1); return x, err },
			func() (api.Engine, api.Errno) { _, x, err := Quantum(e, nil); return x, err },
			func() (api.Engine, api.Errno) { _, err := Due(e); return api.Engine{}, err },
		} {
			if x, err := f(); err != api.ErrInvalid || !isZero(x) {
				t.Error(i, k, err)
			}
		}
	}
}

// P28.2
func TestHost(t *testing.T) {
	d := opened(7, api.Playback, steady(1, 1), mono)
	e, err := Host(base, d, limit())
	started, _ := device.Start(d, 640)
	if err != api.OK || !Valid(e) || len(e.Outlets) != 4 || !reflect.DeepEqual(e.Outlets[2], api.Outlet{Device: started, Limit: limit()}) || !reflect.DeepEqual(e.Voices, base.Voices) {
		t.Error(err)
	}
	running, _ := device.Start(d, 0)
	none := opened(0, api.Playback, steady(1, 1), mono)
	other := d
	other.Rate = 44100
	full := fresh.Engine(base)
	for id := uint64(20); len(full.Outlets) < 8; id++ {
		full = must(Host(full, opened(id, api.Playback, steady(1, 1), mono), limit()))
	}
	for i, c := range []struct {
		e   api.Engine
		d   api.Device
		l   api.Limit
		err api.Errno
	}{
		{base, api.Device{}, limit(), api.ErrInvalid}, {base, running, limit(), api.ErrInvalid}, {base, none, limit(), api.ErrInvalid}, {base, other, limit(), api.ErrInvalid}, {base, opened(9, api.Playback, steady(1, 1), mono), api.Limit{}, api.ErrInvalid},
		{full, opened(9, api.Capture, steady(1, 1), mono), limit(), api.ErrExists}, {full, opened(5, api.Playback, steady(1, 1), mono), limit(), api.ErrExists}, {full, d, limit(), api.ErrLimit},
	} {
		if x, err := Host(c.e, c.d, c.l); err != c.err || !isZero(x) {
			t.Error(i, err)
		}
	}
	slow := must(New(44100, period))
	if _, err := Host(slow, d, limit()); err != api.ErrInvalid {
		t.Error("another rate", err)
	}
	wide := must(New(48000, 128))
	if _, err := Host(wide, d, limit()); err != api.ErrInvalid {
		t.Error("another period", err)
	}
}

// P28.2
func TestDrop(t *testing.T) {
	e, err := Drop(base, 5)
	if err != api.OK || !Valid(e) || len(e.Outlets) != 2 || e.Voices[0].Device != 0 || e.Voices[1].Device != 0 || e.Voices[3].Device != 9 {
		t.Error(err)
	}
	one, _ := matrix.Identity(1)
	if !reflect.DeepEqual(e.Voices[1].Matrix, one) || base.Voices[0].Device != 5 {
		t.Error(e.Voices[1])
	}
	for _, id := range []uint64{0, 7} {
		if x, err := Drop(base, id); err != api.ErrMissing || !isZero(x) {
			t.Error(err)
		}
	}
}

// P28.3
func TestOpen(t *testing.T) {
	e, err := Open(base, 5, api.Capture, []int{2, 1, 4}, 96000, 77, 3)
	s, _ := stream.New(api.Capture, 3, api.Ratio{Num: 1, Den: 2}, 77, 3)
	three, _ := matrix.Identity(3)
	want := api.Voice{ID: 5, Map: []int{2, 1, 4}, Rate: 96000, Stream: s, Matrix: three, Ramp: api.Ramp{From: api.Unit, To: api.Unit}}
	if err != api.OK || !Valid(e) || !reflect.DeepEqual(e.Voices[3], want) || len(e.Voices) != 6 {
		t.Error(err, e.Voices)
	}
	if base.Voices[0].Stream.Resample.Phase.Base != (api.Ratio{Num: 147, Den: 160}) || base.Voices[2].Stream.Resample.Phase.Base != (api.Ratio{Num: 2, Den: 1}) {
		t.Error("bases")
	}
	full := fresh.Engine(base)
	for id := 30; len(full.Voices) < 24; id++ {
		full = must(Open(full, id, api.Playback, mono, 48000, 10, 0))
	}
	for i, c := range []struct {
		e             api.Engine
		id, direction int
		m             []int
		rate, room    int
		err           api.Errno
	}{
		{full, 0, 1, mono, 48000, 0, api.ErrRange}, {full, -1, 1, mono, 48000, 10, api.ErrRange}, {full, 1<<53 + 1, 1, mono, 48000, 10, api.ErrRange}, {full, 2, 1, nil, 48000, 10, api.ErrRange}, {full, 2, 1, []int{1, 1}, 48000, 10, api.ErrRange}, {full, 2, 1, mono, 999, 10, api.ErrRange}, {full, 2, 1, mono, 768001, 10, api.ErrRange}, {full, 2, 0, mono, 48000, 10, api.ErrRange}, {full, 2, 3, mono, 48000, 10, api.ErrRange},
		{full, 2, 1, mono, 48000, 0, api.ErrExists}, {full, 5, 1, mono, 48000, 0, api.ErrLimit}, {base, 5, 1, mono, 48000, 0, api.ErrInvalid}, {base, 5, 1, mono, 48000, 2, api.ErrInvalid},
	} {
		if x, err := Open(c.e, c.id, c.direction, c.m, c.rate, c.room, 3); err != c.err || !isZero(x) {
			t.Error(i, err)
		}
	}
}

// P28.3
func TestCloseRouteShape(t *testing.T) {
	e, err := Close(base, 3)
	if err != api.OK || !Valid(e) || len(e.Voices) != 4 || e.Voices[1].ID != 4 {
		t.Error(err)
	}
	e, err = Route(base, 2, 9)
	down, _ := matrix.Default(stereo, mono)
	if err != api.OK || !Valid(e) || e.Voices[0].Device != 9 || !reflect.DeepEqual(e.Voices[0].Matrix, down) || base.Voices[0].Device != 5 {
		t.Error(err)
	}
	up, _ := matrix.Default(mono, stereo)
	if !reflect.DeepEqual(base.Voices[2].Matrix, up) { // from the device to the voice
		t.Error(base.Voices[2].Matrix)
	}
	e, err = Route(base, 4, 0)
	if err != api.OK || !Valid(e) || e.Voices[2].Device != 0 {
		t.Error(err)
	}
	r := api.Ramp{From: 5, To: 6, Frames: 7, At: 2}
	e, err = Shape(base, 4, r)
	if err != api.OK || e.Voices[2].Ramp != r {
		t.Error(err)
	}
	for i, c := range []struct {
		f   func() (api.Engine, api.Errno)
		err api.Errno
	}{
		{func() (api.Engine, api.Errno) { return Close(base, 5) }, api.ErrMissing},
		{func() (api.Engine, api.Errno) { return Route(base, 5, 5) }, api.ErrMissing},
		{func() (api.Engine, api.Errno) { return Route(base, 2, 7) }, api.ErrMissing},
		{func() (api.Engine, api.Errno) { return Route(base, 2, 6) }, api.ErrMismatch},
		{func() (api.Engine, api.Errno) { return Route(base, 4, 9) }, api.ErrMismatch},
		{func() (api.Engine, api.Errno) { return Shape(base, 5, api.Ramp{At: 1}) }, api.ErrInvalid},
		{func() (api.Engine, api.Errno) { return Shape(base, 5, r) }, api.ErrMissing},
		{func() (api.Engine, api.Errno) { return Do(base, 5, api.CmdKill) }, api.ErrMissing},
		{func() (api.Engine, api.Errno) { return Do(base, 2, 99) }, api.ErrInvalid},
		{func() (api.Engine, api.Errno) { return Do(base, 2, api.CmdPause) }, api.ErrState},
		{func() (api.Engine, api.Errno) { return Write(base, 5, api.Block{}) }, api.ErrMissing},
		{func() (api.Engine, api.Errno) { return Write(base, 2, api.Block{Channels: 1}) }, api.ErrMismatch},
		{func() (api.Engine, api.Errno) { _, x, err := Read(base, 5, 1); return x, err }, api.ErrMissing},
		{func() (api.Engine, api.Errno) { _, x, err := Read(base, 2, 1); return x, err }, api.ErrInvalid},
		{func() (api.Engine, api.Errno) { _, x, err := Read(base, 4, -1); return x, err }, api.ErrRange},
	} {
		if x, err := c.f(); err != c.err || !isZero(x) {
			t.Error(i, err)
		}
	}
}

func sound(channels, frames, seed int) api.Block {
	b := api.Block{Channels: channels}
	for i := range channels * frames {
		b.Data = append(b.Data, int32((i+seed)*7919%4000001-2000000))
	}
	return b
}

// playing is the example in which all voices run, with sound in them.
func playing() api.Engine {
	e := base
	for _, id := range []int{2, 3, 7, 8} {
		e = must(Write(e, id, sound(len(e.Voices[voice(e, id)].Map), 200, id)))
	}
	for _, id := range []int{2, 3, 4, 7, 8} {
		e = must(Do(e, id, api.CmdStart))
	}
	e = must(Shape(e, 3, api.Ramp{From: api.Unit, To: 0, Frames: 100}))
	return must(Shape(e, 4, api.Ramp{From: 0, To: api.Unit, Frames: 64}))
}

func TestWriteDoRead(t *testing.T) {
	e := playing()
	want, _ := stream.Write(base.Voices[0].Stream, sound(2, 200, 2))
	want, _ = stream.Do(want, api.CmdStart)
	if !reflect.DeepEqual(e.Voices[0].Stream, want) || base.Voices[0].Stream.State != api.Idle {
		t.Error("P28.3: Write and Do")
	}
	_, e, _ = Quantum(e, []api.Captured{{Device: 6, Block: sound(1, 64, 1)}})
	wanted, left, _ := stream.Read(e.Voices[2].Stream, 9)
	b, x, err := Read(e, 4, 9)
	if err != api.OK || !reflect.DeepEqual(b, wanted) || !reflect.DeepEqual(x.Voices[2].Stream, left) || len(b.Data) != 18 {
		t.Error("P28.3: Read", b, err)
	}
}

// P28.4
func TestDue(t *testing.T) {
	e := must(Host(base, opened(7, api.Capture, steady(147, 160), mono), limit()))
	l, err := Due(e)
	n, _ := device.Due(e.Outlets[2].Device, 640, 704)
	if err != api.OK || !slices.Equal(l, []int{64, 64, n, 64}) || n == 64 {
		t.Error(l, err)
	}
	wild := must(Host(must(New(48000, 8192)), func() api.Device {
		d := api.Descriptor{ID: 3, Name: "d", Direction: api.Playback, Boxes: []api.Box{{Kinds: 4, Rates: span1(1000, 96000), Maps: [][]int{mono}, Sizes: span1(1, 4096)}}}
		out, _ := device.Open(d, api.Choice{Format: api.Format{Kind: 2, Rate: 48000, Map: mono}, Size: 64}, steady(1024, 1), 48000, 8192)
		return out
	}(), limit()))
	if l, err := Due(wild); err != api.ErrLimit || l != nil {
		t.Error(l, err)
	}
	if r, x, err := Quantum(wild, nil); err != api.ErrLimit || !isZero(x) || !reflect.DeepEqual(r, api.Result{}) {
		t.Error(err)
	}
}

// P28.5
func TestQuantum(t *testing.T) {
	e := playing()
	recorded := sound(1, 64, 5)
	r, after, err := Quantum(e, []api.Captured{{Device: 6, Block: recorded}})
	if err != api.OK || !Valid(after) || after.Now != 11 || r.At != 10 || len(r.Played) != 3 || len(r.Heard) != 5 {
		t.Fatal(err)
	}
	var inputs []api.Input
	for _, v := range e.Voices[:2] {
		b, _, _, _ := stream.Take(v.Stream, period)
		inputs = append(inputs, api.Input{Block: b, Matrix: v.Matrix, Ramp: v.Ramp})
	}
	mixed, limited, _ := mixture.Mix(2, period, inputs, limit())
	block, lost, missing, d, _ := device.Play(e.Outlets[0].Device, mixed, 640, 704)
	want := api.Played{Device: 5, Direction: api.Playback, Map: stereo, Limit: limit(), Mixed: mixed, Block: block, Lost: lost, Missing: missing}
	if !reflect.DeepEqual(r.Played[0], want) || !reflect.DeepEqual(after.Outlets[0], api.Outlet{Device: d, Limit: limited}) {
		t.Error("playback")
	}
	block, lost, missing, d, _ = device.Record(e.Outlets[1].Device, recorded, period, 640, 704)
	want = api.Played{Device: 6, Direction: api.Capture, Map: mono, Limit: limit(), Mixed: block, Block: recorded, Lost: lost, Missing: missing}
	if !reflect.DeepEqual(r.Played[1], want) || !reflect.DeepEqual(after.Outlets[1], api.Outlet{Device: d, Limit: limit()}) {
		t.Error("capture")
	}
	own, _ := matrix.Apply(e.Voices[2].Matrix, block)
	own, _, _ = gain.Run(e.Voices[2].Ramp, own)
	_, given, _ := stream.Give(e.Voices[2].Stream, own)
	if !reflect.DeepEqual(after.Voices[2].Stream, given) {
		t.Error("what a voice is given")
	}
	for i, v := range e.Voices {
		ramp, _ := mixture.After(api.Input{Ramp: v.Ramp}, period)
		if r.Heard[i] != (api.Heard{Stream: v.ID, State: api.Running, Device: v.Device, Ramp: v.Ramp}) || after.Voices[i].Ramp != ramp {
			t.Error(i, r.Heard[i], after.Voices[i].Ramp)
		}
	}
	if r.Glitches != nil || after.Voices[4].Stream.Played != period {
		t.Error(r.Glitches, "a voice without a device is taken, too")
	}
	r.Played[1].Block.Data[0], r.Played[0].Map[0] = 9, 9
	if recorded.Data[0] == 9 || after.Outlets[0].Device.Choice.Format.Map[0] == 9 || e.Now != 10 {
		t.Error("shared memory")
	}
}

// P28.5: glitches and their order.
func TestGlitches(t *testing.T) {
	e := playing()
	for i := range e.Voices { // nearly empty, or nearly full
		s := &e.Voices[i].Stream
		if s.Direction == api.Playback {
			s.Resample.Rest = s.Resample.Rest[:20*s.Resample.Channels]
		} else {
			s.Ring.Data, s.Ring.Written = make([]int32, 290*2), 290
		}
	}
	e.Outlets[0].Device.Bridge.Capacity = 30
	e.Outlets[0].Device.Bridge.Resample.Rest = nil
	e.Outlets[1].Device.Bridge.Capacity = 70
	e.Outlets[1].Device.Bridge.Resample.Rest = make([]int32, 50)
	e = must(e, api.OK)
	r, after, err := Quantum(e, []api.Captured{{Device: 6, Block: sound(1, 64, 5)}})
	if err != api.OK || !Valid(after) {
		t.Fatal(err)
	}
	short := func(id int) api.Glitch {
		v := e.Voices[voice(e, id)]
		_, missing, _, _ := stream.Take(v.Stream, period)
		return api.Glitch{Kind: api.GlitchShort, At: 10, Quanta: 1, Stream: id, Frames: missing}
	}
	_, lost, missing, _, _ := device.Play(e.Outlets[0].Device, api.Block{Channels: 2, Data: make([]int32, 128)}, 640, 704)
	want := []api.Glitch{short(2), short(3), short(7), short(8), {Kind: api.GlitchOver, At: 10, Quanta: 1, Device: 5, Frames: lost}, {Kind: api.GlitchDry, At: 10, Quanta: 1, Device: 5, Frames: missing}, {Kind: api.GlitchOver, At: 10, Quanta: 1, Device: 6, Frames: 44}, {Kind: api.GlitchFull, At: 10, Quanta: 1, Stream: 4, Frames: 22}}
	if !slices.Equal(r.Glitches, want) {
		t.Error(r.Glitches, want)
	}
	heard := map[int]int{2: want[0].Frames, 3: want[1].Frames, 7: want[2].Frames, 8: want[3].Frames, 4: 22}
	for _, h := range r.Heard {
		if h.Missing != heard[h.Stream] || h.Missing == 0 {
			t.Error(h)
		}
	}
	if lost != 34 || missing == 0 || r.Played[0].Missing != missing || r.Played[1].Lost != 44 {
		t.Error(r.Played[0].Missing, r.Played[1].Lost)
	}
}

// P28.5: errors and their order.
func TestQuantumErrors(t *testing.T) {
	last := fresh.Engine(base)
	last.Now = api.MaxTime/period - 1
	good := []api.Captured{{Device: 6, Block: sound(1, 64, 5)}}
	far := playing()
	far.Voices[0].Stream.Resample.Phase.Pos = 1 << 50
	for i, c := range []struct {
		e   api.Engine
		l   []api.Captured
		err api.Errno
	}{
		{last, nil, api.ErrRange}, {base, nil, api.ErrMismatch}, {base, append(good, good...), api.ErrMismatch}, {base, []api.Captured{{Device: 5, Block: good[0].Block}}, api.ErrMismatch}, {must(New(48000, 64)), good, api.ErrMismatch},
		{base, []api.Captured{{Device: 6, Block: sound(1, 63, 5)}}, api.ErrShort}, {base, []api.Captured{{Device: 6}}, api.ErrInvalid}, {base, []api.Captured{{Device: 6, Block: sound(2, 64, 5)}}, api.ErrMismatch},
		{far, []api.Captured{{Device: 6}}, api.ErrRange},
	} {
		if r, x, err := Quantum(c.e, c.l); err != c.err || !isZero(x) || !reflect.DeepEqual(r, api.Result{}) {
			t.Error(i, err)
		}
	}
}

// The consequences of chapter 28: what a device is given does not depend on others, and an engine without voices gives silence.
func TestIndependence(t *testing.T) {
	e := playing()
	l := []api.Captured{{Device: 6, Block: sound(1, 64, 5)}}
	r, _, _ := Quantum(e, l)
	alone := must(Drop(must(Close(must(Close(e, 7)), 4)), 9))
	x, _, err := Quantum(alone, l)
	if err != api.OK || !reflect.DeepEqual(x.Played, r.Played[:2]) {
		t.Error(err)
	}
	silent := must(Host(must(New(48000, period)), opened(5, api.Playback, steady(1, 1), stereo), limit()))
	for range 50 {
		x, silent, err = Quantum(silent, nil)
		if err != api.OK || len(x.Glitches)+len(x.Heard) != 0 || slices.ContainsFunc(x.Played[0].Mixed.Data, func(s int32) bool { return s != 0 }) {
			t.Fatal(x, err)
		}
	}
}
