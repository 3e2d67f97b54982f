package audit

import (
	"reflect"
	"slices"
	"testing"

	"soundservice/api"
	"soundservice/world"
)

const period = 64

func setup() api.Setup {
	return api.Setup{Rate: 48000, Period: period, Workers: 2, Capacity: 200000, Settle: 1, Fade: 2, Slope: api.Slope{Attack: 30000, Release: 20000, Hold: 2}, Threshold: 8000000, Release: 1000}
}

func spans(lo, hi int) api.IntSet { return api.IntSet{Spans: []api.Span{{Lo: lo, Hi: hi}}} }

func steady(num, den int64) api.Clock {
	return api.Clock{Segments: []api.Segment{{Rate: api.Ratio{Num: num, Den: den}}}}
}

func plugging(at int, id uint64, name string, direction, rate int, c api.Clock) api.Act {
	d := api.Descriptor{ID: id, Name: name, Direction: direction, Latency: 10, Drift: 40, Jitter: 1, Boxes: []api.Box{{Kinds: 254, Rates: spans(rate, rate), Maps: [][]int{{3}, {1, 2}}[id%2:], Sizes: spans(1, 4096)}}}
	return api.Act{At: at, Kind: api.ActPlug, Descriptor: d, Clock: c}
}

func sending(at int, r api.Request) api.Act {
	return api.Act{At: at, Kind: api.ActSend, Request: r}
}

func opening(at, id, direction, channels, rate int, role string) api.Act {
	return sending(at, api.Request{Kind: api.ReqOpen, ID: id, Role: role, Direction: direction, Channels: channels, Rate: rate, Latency: 20000})
}

func feeding(at, id, n int) api.Act { return api.Act{At: at, Kind: api.ActFeed, ID: id, N: n} }

// script is a world in which all kinds of things happen.
func script() []api.Act {
	return []api.Act{
		plugging(0, 5, "speaker-a", api.Playback, 48000, steady(1, 1)), plugging(0, 6, "mic", api.Capture, 44100, steady(147, 160)), plugging(0, 7, "headset-b", api.Playback, 44100, steady(147*65536/32+147, 160*65536/32)),
		opening(3, 1, api.Playback, 2, 48000, "music"), opening(3, 2, api.Playback, 1, 44100, "voice"), opening(3, 3, api.Capture, 1, 48000, "voice"), opening(3, 4, api.Playback, 2, 32000, "game"),
		feeding(3, 1, 64), feeding(3, 2, 59), feeding(3, 3, 64), feeding(3, 4, 43),
		sending(3, api.Request{Kind: api.ReqStart, ID: 3}), sending(6, api.Request{Kind: api.ReqStart, ID: 1}), sending(7, api.Request{Kind: api.ReqStart, ID: 2}), sending(7, api.Request{Kind: api.ReqStart, ID: 4}),
		sending(10, api.Request{Kind: api.ReqRules, Text: "duck music 30 when active voice\nroute voice headset\n"}), sending(15, api.Request{Kind: api.ReqVolume, ID: 1, N: 60}), sending(20, api.Request{Kind: api.ReqMove, ID: 4, Device: 7}),
		feeding(28, 2, 30), sending(30, api.Request{Kind: api.ReqPause, ID: 1}), {At: 33, Kind: api.ActUnplug, Device: 7}, sending(34, api.Request{Kind: api.ReqStart, ID: 1}), {At: 36, Kind: api.ActDie, ID: 4}, feeding(36, 3, 0),
		plugging(40, 7, "headset-b", api.Playback, 44100, steady(49, 50)), {At: 55, Kind: api.ActBoot}, feeding(56, 3, 64), sending(60, api.Request{Kind: api.ReqStart, ID: 1}), sending(62, api.Request{Kind: api.ReqStart, ID: 2}), sending(70, api.Request{Kind: api.ReqDrain, ID: 1}), sending(72, api.Request{Kind: api.ReqMute, ID: 2, N: 1}),
	}
}

func history(t *testing.T) api.History {
	h, e := world.Run(setup(), script(), 90)
	if e != api.OK {
		t.Fatal(e)
	}
	return h
}

// P44.1: what a world has mixed is what was written.
func TestMixed(t *testing.T) {
	h := history(t)
	known, loud := 0, 0
	for at, m := range h.Moments {
		for _, p := range m.Result.Played {
			b, ok := Mixed(h, at, p.Device, period, 48000)
			if ok && !reflect.DeepEqual(b, p.Mixed) {
				t.Error(at, p.Device)
			}
			if ok {
				known++
			}
			if ok && slices.ContainsFunc(b.Data, func(s int32) bool { return s != 0 }) {
				loud++
			}
			if !ok && (b.Data != nil || b.Channels != 0 || p.Direction == api.Playback && at >= 56) {
				t.Error(at, p.Device, "is not known")
			}
		}
	}
	if known < 40 || loud < 15 {
		t.Error(known, loud)
	}
}

// P44.1: the first quantum of a stream, and the first one of all.
func TestMixedFirst(t *testing.T) {
	h, _ := world.Run(setup(), script()[:12], 20)
	for at := 1; at < 20; at++ {
		for _, id := range []uint64{5, 7} {
			if b, ok := Mixed(h, at, id, period, 48000); !ok || !reflect.DeepEqual(b, h.Moments[at].Result.Played[(id-5)].Mixed) {
				t.Error(at, id)
			}
		}
	}
	p := api.Played{Device: 5, Direction: api.Playback, Map: []int{3}, Limit: api.Limit{Threshold: 1, Release: 1, Gain: 1}}
	one := api.History{Moments: []api.Moment{{Result: api.Result{Played: []api.Played{p}}}}}
	if b, ok := Mixed(one, 0, 5, 3, 48000); !ok || !reflect.DeepEqual(b, api.Block{Channels: 1, Data: make([]int32, 3)}) {
		t.Error(b, ok)
	}
}

// P44.1: what is not known.
func TestNotMixed(t *testing.T) {
	h := history(t)
	at := 64
	if _, ok := Mixed(h, at, 5, period, 48000); !ok {
		t.Fatal("it is known")
	}
	for i, change := range []func(*api.History, *api.Played) (int, uint64){
		func(*api.History, *api.Played) (int, uint64) { return -1, 5 },
		func(*api.History, *api.Played) (int, uint64) { return 90, 5 },
		func(*api.History, *api.Played) (int, uint64) { return at, 9 },
		func(*api.History, *api.Played) (int, uint64) { return at, 6 },
		func(h *api.History, p *api.Played) (int, uint64) { p.Direction = api.Capture; return at, 5 },
		func(h *api.History, p *api.Played) (int, uint64) { p.Map = nil; return at, 5 },
		func(h *api.History, p *api.Played) (int, uint64) { p.Limit.Threshold = 0; return at, 5 },
		func(h *api.History, p *api.Played) (int, uint64) { h.Written = h.Written[1:]; return at, 5 },
		func(h *api.History, p *api.Played) (int, uint64) { h.Written[0].Since = at + 1; return at, 5 },
		func(h *api.History, p *api.Played) (int, uint64) { h.Written[0].Rate = 0; return at, 5 },
		func(h *api.History, p *api.Played) (int, uint64) { h.Written[0].Block.Channels = 9; return at, 5 },
		func(h *api.History, p *api.Played) (int, uint64) {
			h.Written[0].Block.Data = h.Written[0].Block.Data[:100]
			return at, 5
		},
		func(h *api.History, p *api.Played) (int, uint64) {
			h.Moments[at-1].Result.Heard[0].Missing = period + 1
			return at, 5
		},
	} {
		x := history(t)
		n, device := change(&x, &x.Moments[at].Result.Played[0])
		if b, ok := Mixed(x, n, device, period, 48000); ok || b.Data != nil || b.Channels != 0 {
			t.Error(i)
		}
	}
	for _, c := range [][2]int{{-1, 48000}, {1 << 40, 48000}, {period, 0}, {period, -5}} {
		if b, ok := Mixed(h, at, 5, c[0], c[1]); ok || b.Channels != 0 {
			t.Error(c)
		}
	}
}

// P44.2, and the whole system: a world breaks no rule.
func TestWorlds(t *testing.T) {
	h := history(t)
	glitches := 0
	for _, m := range h.Moments {
		glitches += len(m.Result.Glitches)
	}
	if v := Check(setup(), h); v != (api.Verdict{}) || glitches < 20 {
		t.Error(v, glitches)
	}
	if v := Check(setup(), api.History{}); v != (api.Verdict{}) {
		t.Error(v)
	}
}

// P44.2: what is changed is found.
func TestFound(t *testing.T) {
	at := 64
	for i, c := range []struct {
		change func(*api.History, *api.Result)
		v      api.Verdict
	}{
		{func(_ *api.History, r *api.Result) { r.Played[0].Mixed.Data[3]++ }, api.Verdict{At: at, Rule: api.AuditMix}},
		{func(_ *api.History, r *api.Result) { r.Played[0].Mixed.Channels = 1 }, api.Verdict{At: at, Rule: api.AuditMix}},
		{func(_ *api.History, r *api.Result) {
			r.Played[0].Map, r.Played[0].Mixed.Data[3], r.Heard[0].Latency = nil, -8000001, 1<<60
		}, api.Verdict{At: at, Rule: api.AuditLoud}},
		{func(_ *api.History, r *api.Result) { r.Played[0].Map, r.Played[0].Mixed.Data[3] = nil, 8000000 }, api.Verdict{}},
		{func(_ *api.History, r *api.Result) { r.Played[1].Mixed.Data[3] = 8000001 }, api.Verdict{}}, // of a capture device
		{func(_ *api.History, r *api.Result) { r.Heard[1].Missing, r.Heard[1].Latency = 1, 1<<60 }, api.Verdict{At: at, Rule: api.AuditMix}},
		{func(h *api.History, r *api.Result) {
			r.Played[0].Map, r.Played[2].Map, r.Heard[0].Missing, r.Heard[0].Latency = nil, nil, 1, 1<<60
		}, api.Verdict{At: at, Rule: api.AuditMissed}},
		{func(h *api.History, r *api.Result) {
			r.Played[0].Map, r.Played[2].Map, r.Heard[0].Missing, h.Written[0].Since = nil, nil, 1, at
		}, api.Verdict{At: at, Rule: api.AuditMissed}},
		{func(h *api.History, r *api.Result) {
			r.Played[0].Map, r.Played[2].Map, r.Heard[0].Missing, h.Written[0].Since = nil, nil, 1, at+1
		}, api.Verdict{}},
		{func(h *api.History, r *api.Result) { // dropped facts are not known
			r.Played[0].Map, r.Played[2].Map, r.Heard[0].Missing, r.Heard[0].Latency = nil, nil, 1, 1<<60
			h.Service.Facts = slices.Repeat([]api.Fact{{}}, api.MaxFacts)
		}, api.Verdict{At: at, Rule: api.AuditLatency}},
		{func(_ *api.History, r *api.Result) { r.Heard[0].Latency = r.Heard[0].Granted + 1 }, api.Verdict{At: at, Rule: api.AuditLatency}},
		{func(h *api.History, r *api.Result) {
			r.Glitches = append(r.Glitches, api.Glitch{Kind: api.GlitchDry, At: r.At, Quanta: 1, Device: 77, Frames: 1})
			h.Service.Facts = slices.DeleteFunc(h.Service.Facts, func(f api.Fact) bool { return f.Kind == api.FactRestart })
		}, api.Verdict{At: at, Rule: api.AuditCause}},
	} {
		h := history(t)
		h.Moments = h.Moments[:at+1]
		c.change(&h, &h.Moments[at].Result)
		if v := Check(setup(), h); v != c.v {
			t.Error(i, v, c.v)
		}
	}
}

// source gives numbers that are the same in each run.
type source uint64

func (s *source) below(n int) int {
	*s = *s*6364136223846793005 + 1442695040888963407
	return int(uint64(*s)>>33) % n
}

func pick[T any](s *source, l ...T) T { return l[s.below(len(l))] }

// request makes up a request.
func (s *source) request() api.Request {
	r := api.Request{Kind: 1 + s.below(12), ID: 1 + s.below(6)}
	switch r.Kind {
	case api.ReqOpen:
		r.Role, r.Direction, r.Channels = pick(s, "music", "voice", "game"), 1+s.below(5)/4, pick(s, 1, 2, 2, 6)
		r.Rate, r.Latency = pick(s, 48000, 44100, 8000, 96000, 22050), pick(s, 100000, 100000, 3000)
	case api.ReqVolume:
		r.N = s.below(101)
	case api.ReqMute:
		r.N = s.below(2)
	case api.ReqWrite:
		r.Data = make([]byte, s.below(300))
		for i := range r.Data {
			r.Data[i] = byte(s.below(256))
		}
	case api.ReqRead:
		r.N = s.below(300)
	case api.ReqMove:
		r.Device = uint64(s.below(6))
	case api.ReqRules:
		r.ID, r.Text = 0, pick(s, "duck music 30 when active voice\nroute voice headset", "route any headset when present headset", "mute game when active voice and not active music\nduck any 50", "")
	case api.ReqList:
		r.ID = 0
	}
	return r
}

// act makes up an act.
func (s *source) act(at, period int) api.Act {
	id := uint64(1 + s.below(5))
	switch s.below(20) {
	case 0, 1:
		rate := pick(s, 48000, 44100, 96000, 16000)
		num, den := int64(rate), int64(48000)
		for d := int64(2); d <= 500; d++ {
			for num%d == 0 && den%d == 0 {
				num, den = num/d, den/d
			}
		}
		c := steady(num, den)
		if s.below(3) == 0 {
			c.Segments = append(c.Segments, api.Segment{From: int64(period * (5 + s.below(20))), Rate: api.Ratio{Num: 101, Den: 100}})
		}
		a := plugging(at, id, pick(s, "headset-a", "speaker-b", "mic"), 1+s.below(4)/3, rate, c)
		a.Descriptor.Drift, a.Descriptor.Jitter, a.Descriptor.Latency = s.below(100), s.below(3), s.below(300)
		return a
	case 2:
		return api.Act{At: at, Kind: api.ActUnplug, Device: id}
	case 3:
		return api.Act{At: at, Kind: api.ActDie, ID: 1 + s.below(6)}
	case 4, 5, 6:
		return feeding(at, 1+s.below(6), pick(s, period, 2*period, period/2, period+1, 4*period, 0))
	case 7:
		if s.below(6) == 0 {
			return api.Act{At: at, Kind: api.ActBoot}
		}
		return feeding(at, 1+s.below(6), 3*period)
	case 8, 9, 10, 11:
		return sending(at, api.Request{Kind: api.ReqStart, ID: 1 + s.below(6)})
	}
	return sending(at, s.request())
}

// P44.2, and the whole system: worlds that are made up break no rule.
func TestManyWorlds(t *testing.T) {
	glitches, heard := 0, 0
	for seed := range 60 {
		s := source(seed)
		x := setup()
		x.Period, x.Settle, x.Fade, x.Workers, x.Capacity = pick(&s, 16, 64, 200), s.below(3), 1+s.below(4), 1+s.below(4), pick(&s, 1000000, 30000)
		x.Threshold = pick(&s, 8000000, 100000, 3000000)
		var l []api.Act
		at := 0
		for range 150 {
			at += s.below(4) / 3
			l = append(l, s.act(at, x.Period))
		}
		h, e := world.Run(x, l, at+10)
		if e != api.OK {
			t.Fatal(seed, e)
		}
		if v := Check(x, h); v != (api.Verdict{}) {
			t.Error(seed, v)
		}
		for _, m := range h.Moments {
			glitches += len(m.Result.Glitches)
			heard += len(m.Result.Heard)
		}
	}
	if glitches < 500 || heard < 2000 {
		t.Error(glitches, heard)
	}
}
