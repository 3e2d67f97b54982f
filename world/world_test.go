package world

import (
	"math/big"
	"reflect"
	"slices"
	"testing"

	"soundservice/api"
	"soundservice/descriptor"
	"soundservice/engine"
	"soundservice/sample"
	"soundservice/service"
	"soundservice/stream"
)

const (
	period = 64
	maxInt = 1<<63 - 1
	minInt = -1 << 63
)

func setup() api.Setup {
	return api.Setup{Rate: 48000, Period: period, Workers: 2, Capacity: 100000, Settle: 1, Fade: 3, Slope: api.Slope{Attack: 65536, Release: 65536}, Threshold: 8000000, Release: 1000}
}

func spans(lo, hi int) api.IntSet { return api.IntSet{Spans: []api.Span{{Lo: lo, Hi: hi}}} }

func plugging(at int, id uint64, direction int, num, den int64) api.Act {
	d := api.Descriptor{ID: id, Name: "d", Direction: direction, Latency: 10, Drift: 20, Boxes: []api.Box{{Kinds: 254, Rates: spans(48000, 48000), Maps: [][]int{{3}, {1, 2}}, Sizes: spans(1, 4096)}}}
	return api.Act{At: at, Kind: api.ActPlug, Descriptor: d, Clock: api.Clock{Segments: []api.Segment{{Rate: api.Ratio{Num: num, Den: den}}}}}
}

func sending(at int, r api.Request) api.Act {
	return api.Act{At: at, Kind: api.ActSend, Request: r}
}

func opening(at, id, direction, channels int) api.Act {
	return sending(at, api.Request{Kind: api.ReqOpen, ID: id, Role: "music", Direction: direction, Channels: channels, Rate: 48000, Latency: 5000})
}

func asking(at, kind, id int) api.Act { return sending(at, api.Request{Kind: kind, ID: id}) }

func feeding(at, id, n int) api.Act { return api.Act{At: at, Kind: api.ActFeed, ID: id, N: n} }

// P43.1
func TestTone(t *testing.T) {
	for _, c := range []struct {
		seed, index int64
		channel     int
	}{{0, 0, 0}, {7, 3, 1}, {1 << 40, 1 << 40, 7}, {5, 1999, 2}} {
		n := new(big.Int).Mul(big.NewInt(c.seed), big.NewInt(7919))
		n.Add(n, new(big.Int).Mul(big.NewInt(c.index), big.NewInt(104729)))
		n.Add(n, big.NewInt(int64(c.channel)*1299709))
		want := int32(n.Mod(n, big.NewInt(2001)).Int64()-1000) * 256
		if got := Tone(c.seed, c.index, c.channel); got != want {
			t.Error(c, got, want)
		}
	}
	for _, c := range []struct {
		seed, index int64
		channel     int
	}{{-1, 0, 0}, {1<<40 + 1, 0, 0}, {0, -1, 0}, {0, 1<<40 + 1, 0}, {1, 1, -1}, {1, 1, 8}, {maxInt, maxInt, maxInt}, {minInt, minInt, minInt}} {
		if Tone(c.seed, c.index, c.channel) != 0 {
			t.Error(c)
		}
	}
}

// P43.1
func TestSound(t *testing.T) {
	b := Sound(7, -1, 2, 3)
	if b.Channels != 2 || !slices.Equal(b.Data, []int32{0, 0, Tone(7, 0, 0), Tone(7, 0, 1), Tone(7, 1, 0), Tone(7, 1, 1)}) || !sample.Valid(b) {
		t.Error(b)
	}
	if b := Sound(7, maxInt, 1, 2); !slices.Equal(b.Data, []int32{0, 0}) {
		t.Error(b)
	}
	if b := Sound(7, 0, 8, 65536); !sample.Valid(b) || len(b.Data) != 8*65536 {
		t.Error("the greatest sound")
	}
	for _, c := range [][2]int{{0, 1}, {9, 1}, {1, -1}, {1, 65537}, {-1, maxInt}} {
		if b := Sound(1, 1, c[0], c[1]); b.Channels != 0 || b.Data != nil {
			t.Error(c)
		}
	}
}

// P43.1
func TestValid(t *testing.T) {
	for i, c := range []struct {
		l  []api.Act
		ok bool
	}{
		{nil, true}, {[]api.Act{{Kind: 1}, {Kind: 6, At: 5}, {Kind: 2, At: 5}, {Kind: 3, At: maxInt}}, true}, {slices.Repeat([]api.Act{{Kind: 5}}, api.MaxActs), true}, {slices.Repeat([]api.Act{{Kind: 5}}, api.MaxActs+1), false},
		{[]api.Act{{Kind: 0}}, false}, {[]api.Act{{Kind: 7}}, false}, {[]api.Act{{Kind: 1, At: -1}}, false}, {[]api.Act{{Kind: 1, At: 5}, {Kind: 1, At: 4}}, false},
	} {
		if Valid(c.l) != c.ok {
			t.Error(i)
		}
	}
}

// P43.2: errors and their order.
func TestErrors(t *testing.T) {
	for i, c := range []struct {
		s      api.Setup
		l      []api.Act
		quanta int
		e      api.Errno
	}{
		{api.Setup{}, []api.Act{{}}, -1, api.ErrInvalid}, {api.Setup{}, nil, -1, api.ErrRange}, {setup(), nil, 201, api.ErrRange}, {api.Setup{}, nil, 5, api.ErrRange}, {setup(), nil, 200, api.OK},
	} {
		h, e := Run(c.s, c.l, c.quanta)
		if e != c.e || e != api.OK && !reflect.DeepEqual(h, api.History{}) {
			t.Error(i, e)
		}
	}
	h, _ := Run(setup(), nil, 3)
	s, _ := service.New(setup())
	for i, m := range h.Moments {
		if len(m.Answers) != 0 || !reflect.DeepEqual(m.Result, api.Result{At: int64(i)}) {
			t.Error(m)
		}
	}
	s.Engine.Now = 3
	if len(h.Moments) != 3 || !reflect.DeepEqual(h.Service, s) || len(h.Written) != 0 {
		t.Error(h)
	}
	if h, e := Run(setup(), nil, 0); e != api.OK || len(h.Moments) != 0 {
		t.Error(h, e)
	}
}

// script is a world in which the stream 3 plays, 4 records, and much happens.
func script() []api.Act {
	return []api.Act{
		plugging(0, 5, api.Playback, 1, 1), plugging(0, 6, api.Capture, 1000, 1001), plugging(0, 5, api.Playback, 1, 1),
		opening(2, 3, api.Playback, 2), opening(2, 4, api.Capture, 1), feeding(2, 3, period), feeding(2, 4, period), sending(2, api.Request{Kind: api.ReqWrite, ID: 3, Data: []byte{1, 2, 3, 4, 5}}), asking(2, api.ReqStart, 4),
		asking(5, api.ReqStart, 3), feeding(6, 3, 10), feeding(9, 3, 70), asking(12, api.ReqPause, 3), {At: 20, Kind: api.ActUnplug, Device: 9}, {At: 20, Kind: api.ActDie, ID: 77},
	}
}

// replay does by hand what a world with this script does.
func replay(t *testing.T, l []api.Act, quanta int) (moments []api.Moment, s api.Service) {
	s, _ = service.New(setup())
	feeds := map[int]int{}
	fed := map[int]int64{}
	recorded := int64(0)
	for now := range quanta {
		var m api.Moment
		for _, a := range l {
			if a.At != now {
				continue
			}
			e := api.Event{Request: a.Request, Clock: a.Clock, Device: a.Device, ID: a.ID}
			e.Kind = []int{0, api.EvRequest, api.EvPlug, api.EvUnplug, api.EvDie, 0, api.EvRestart}[a.Kind]
			if a.Kind == api.ActPlug {
				e.Bytes, _ = descriptor.Encode(a.Descriptor)
			}
			var answer api.Answer
			if a.Kind == api.ActFeed {
				feeds[a.ID] = a.N
			} else {
				s, answer, _ = service.Step(s, e)
			}
			m.Answers = append(m.Answers, answer)
		}
		for _, k := range s.Session.Streams {
			n := feeds[k.ID]
			for n > 0 && k.Direction == api.Playback {
				piece := min(n, 512/k.Channels)
				b, _ := sample.Encode(api.S16LE, Sound(int64(k.ID), fed[k.ID], k.Channels, piece).Data)
				x, a, _ := service.Step(s, api.Event{Kind: api.EvRequest, Request: api.Request{Kind: api.ReqWrite, ID: k.ID, Data: b}})
				if s = x; a.Code != api.OK {
					break
				}
				fed[k.ID] += int64(piece)
				n -= piece
			}
			if n > 0 && k.Direction == api.Capture {
				s, _, _ = service.Step(s, api.Event{Kind: api.EvRequest, Request: api.Request{Kind: api.ReqRead, ID: k.ID, N: n}})
			}
		}
		e := api.Event{Kind: api.EvQuantum}
		due, _ := engine.Due(s.Engine)
		for i, o := range s.Engine.Outlets {
			if d := o.Device; d.Descriptor.Direction == api.Capture {
				e.Recorded = append(e.Recorded, api.Captured{Device: d.Descriptor.ID, Block: Sound(int64(d.Descriptor.ID), recorded, len(d.Choice.Format.Map), due[i])})
				recorded += int64(due[i])
			}
		}
		s, _, m.Result = service.Step(s, e)
		moments = append(moments, m)
	}
	return moments, s
}

// P43.2
func TestRun(t *testing.T) {
	h, e := Run(setup(), script(), 30)
	moments, s := replay(t, script(), 30)
	if e != api.OK || !reflect.DeepEqual(h.Moments, moments) || !reflect.DeepEqual(h.Service, s) {
		t.Error(e)
	}
	codes := []api.Errno{}
	for _, m := range h.Moments {
		for _, a := range m.Answers {
			codes = append(codes, a.Code)
		}
	}
	if want := []api.Errno{0, 0, api.ErrExists, 0, 0, 0, 0, 0, 0, 0, 0, 0, 0, api.ErrMissing, api.ErrMissing}; !slices.Equal(codes, want) {
		t.Error(codes)
	}
	v := h.Service.Engine.Voices[0].Stream
	if len(h.Written) != 1 || h.Written[0].ID != 3 || h.Written[0].Since != 2 || h.Written[0].Rate != 48000 || h.Written[0].Block.Channels != 2 || len(h.Written[0].Block.Data) != 2*int(v.Written) {
		t.Fatal(h.Written)
	}
	data := h.Written[0].Block.Data
	if first := Sound(3, 0, 2, 200); !slices.Equal(data[:2], []int32{513 * 256, 1027 * 256}) || !slices.Equal(data[2:402], first.Data) {
		t.Error("what was written")
	}
	if n := stream.Waiting(v); n < 200 { // paused and nearly full
		t.Error(n)
	}
	short, _ := Run(setup(), script(), 11)
	if !reflect.DeepEqual(short.Moments, h.Moments[:11]) {
		t.Error("fewer quanta")
	}
}

// P43.2: a piece that is refused ends the feeding of a quantum, however much is fed.
func TestFeedTooMuch(t *testing.T) {
	h, _ := Run(setup(), []api.Act{plugging(0, 5, api.Playback, 1, 1), opening(2, 3, api.Playback, 8), feeding(2, 3, maxInt), feeding(2, 4, -5)}, 6)
	if data := h.Written[0].Block.Data; !slices.Equal(data, Sound(3, 0, 8, 256).Data) { // pieces of 64 frames, room for 272
		t.Error(len(data))
	}
}

// P43.2: what is fed after a stream is closed and opened anew, and after a restart.
func TestReopenAndBoot(t *testing.T) {
	l := []api.Act{plugging(0, 5, api.Playback, 1, 1), opening(2, 3, api.Playback, 1), feeding(2, 3, 10), asking(5, api.ReqClose, 3), opening(7, 3, api.Playback, 2), opening(7, 8, api.Playback, 1), {At: 10, Kind: api.ActBoot}, sending(11, api.Request{Kind: api.ReqWrite, ID: 8, Data: []byte{0, 1}})}
	h, _ := Run(setup(), l, 10)
	if len(h.Written) != 2 || h.Written[0].Since != 7 || !slices.Equal(h.Written[0].Block.Data, Sound(3, 0, 2, 30).Data) || h.Written[1].Since != 7 || len(h.Written[1].Block.Data) != 0 {
		t.Error(h.Written)
	}
	h, _ = Run(setup(), l, 14)
	if len(h.Written) != 2 || h.Written[0].Since != 10 || !slices.Equal(h.Written[0].Block.Data, Sound(3, 30, 2, 40).Data) || h.Written[1].Since != 10 || !slices.Equal(h.Written[1].Block.Data, []int32{65536}) {
		t.Error(h.Written)
	}
	died, _ := Run(setup(), append(l, api.Act{At: 14, Kind: api.ActDie, ID: 3}), 15)
	if len(died.Written) != 1 || died.Written[0].ID != 8 {
		t.Error(died.Written)
	}
}

// P43.2: what capture devices record begins anew when they are hosted anew.
func TestRecorded(t *testing.T) {
	h, _ := Run(setup(), []api.Act{plugging(0, 6, api.Capture, 1, 1), {At: 5, Kind: api.ActUnplug, Device: 6}, plugging(5, 6, api.Capture, 1, 1)}, 9)
	var from []int
	for _, m := range h.Moments {
		for _, p := range m.Result.Played {
			for k := range 300 {
				if reflect.DeepEqual(p.Block, Sound(6, int64(k), 2, 64)) {
					from = append(from, int(m.Result.At), k)
				}
			}
		}
	}
	if !slices.Equal(from, []int{1, 0, 2, 64, 3, 128, 4, 192, 6, 0, 7, 64, 8, 128}) {
		t.Error(from)
	}
	wild, _ := Run(api.Setup{Rate: 48000, Period: 8192, Workers: 8, Capacity: api.MaxCost, Fade: 1, Slope: api.Slope{Attack: 1, Release: 1}, Threshold: 1, Release: 1}, []api.Act{plugging(0, 6, api.Capture, 1024, 1)}, 4)
	if len(wild.Moments) != 4 || len(wild.Service.Engine.Outlets) != 1 || wild.Service.Engine.Now != 1 || !reflect.DeepEqual(wild.Moments[2].Result, api.Result{}) {
		t.Error("quanta that are refused", wild.Service.Engine.Now, len(wild.Service.Engine.Outlets))
	}
}

// P43.2: the least that can be fed, and reading less than there is.
func TestFeedLittle(t *testing.T) {
	l := []api.Act{plugging(0, 5, api.Playback, 1, 1), plugging(0, 6, api.Capture, 1, 1), opening(2, 3, api.Playback, 2), opening(2, 4, api.Capture, 2), asking(2, api.ReqStart, 4), feeding(2, 3, 1), feeding(2, 4, 10)}
	h, _ := Run(setup(), l, 8)
	if data := h.Written[0].Block.Data; !slices.Equal(data, Sound(3, 0, 2, 6).Data) {
		t.Error(len(data))
	}
	v := h.Service.Engine.Voices[1].Stream
	if v.Written < 40 || v.Written > 50 || stream.Waiting(v) < 200 {
		t.Error(v.Written, stream.Waiting(v))
	}
	l[6] = feeding(2, 4, 1)
	h, _ = Run(setup(), l, 8)
	if v := h.Service.Engine.Voices[1].Stream; v.Written < 4 || v.Written > 5 {
		t.Error(v.Written)
	}
	l[6] = feeding(2, 4, maxInt)
	h, _ = Run(setup(), l, 8)
	if v := h.Service.Engine.Voices[1].Stream; v.Written < 200 {
		t.Error(v.Written)
	}
}
