package service

import (
	"bytes"
	"reflect"
	"slices"
	"strings"
	"testing"

	"soundservice/admission"
	"soundservice/api"
	"soundservice/bridge"
	"soundservice/descriptor"
	"soundservice/device"
	"soundservice/engine"
	"soundservice/glitch"
	"soundservice/journal"
	"soundservice/latency"
	"soundservice/plug"
	"soundservice/recorder"
	"soundservice/rules"
	"soundservice/sample"
	"soundservice/session"
	"soundservice/stream"
)

const period = 64

func setup() api.Setup {
	return api.Setup{Rate: 48000, Period: period, Workers: 2, Capacity: 100000, Settle: 2, Fade: 3, Slope: api.Slope{Attack: 30000, Release: 20000, Hold: 2}, Threshold: 8000000, Release: 1000}
}

func spans(lo, hi int) api.IntSet { return api.IntSet{Spans: []api.Span{{Lo: lo, Hi: hi}}} }

func describes(id uint64, name string, direction int) api.Descriptor {
	return api.Descriptor{ID: id, Name: name, Direction: direction, Latency: 10, Drift: 20, Boxes: []api.Box{{Kinds: 254, Rates: spans(48000, 48000), Maps: [][]int{{3}, {1, 2}}, Sizes: spans(1, 4096)}}}
}

func clockOf(num, den int64) api.Clock {
	return api.Clock{Segments: []api.Segment{{Rate: api.Ratio{Num: num, Den: den}}}}
}

func plugging(d api.Descriptor, c api.Clock) api.Event {
	b, _ := descriptor.Encode(d)
	return api.Event{Kind: api.EvPlug, Bytes: b, Clock: c}
}

func asking(r api.Request) api.Event { return api.Event{Kind: api.EvRequest, Request: r} }

func opening(id int, role string, direction, channels, most int) api.Event {
	return asking(api.Request{Kind: api.ReqOpen, ID: id, Role: role, Direction: direction, Channels: channels, Rate: 48000, Latency: most})
}

func ask(kind, id, n int) api.Event { return asking(api.Request{Kind: kind, ID: id, N: n}) }

var quantum = api.Event{Kind: api.EvQuantum}

// check looks at what holds for each service.
func check(t *testing.T, s api.Service) {
	t.Helper()
	if !engine.Valid(s.Engine) || !admission.Valid(s.Book) || !plug.Valid(s.Plugs) || !recorder.Valid(s.Recorder) || len(s.Facts) > api.MaxFacts {
		t.Fatal("a part of the service is not valid")
	}
	for i, k := range s.Session.Streams {
		if s.Engine.Voices[i].ID != k.ID || s.Faders[i].ID != k.ID {
			t.Fatal("streams, voices and faders differ")
		}
		v := s.Engine.Voices[i]
		moves := slices.ContainsFunc(s.Moves, func(m api.Move) bool { return m.Stream == k.ID })
		seated := slices.ContainsFunc(s.Book.Seats, func(x api.Seat) bool { return x.ID == k.ID && x.Device == v.Device })
		if v.Device != 0 && !moves && !seated {
			t.Fatal("a stream has no seat", k.ID)
		}
	}
	if len(s.Engine.Voices) != len(s.Session.Streams) || len(s.Faders) != len(s.Session.Streams) || len(s.Watches) != len(s.Engine.Outlets) || len(s.Book.Devices) != len(s.Engine.Outlets) {
		t.Fatal("lists differ")
	}
	if x, _ := session.Restore(s.Journal); !reflect.DeepEqual(x, s.Session) {
		t.Fatal("the journal does not restore the session")
	}
}

// run lets events go by, none of which is refused, and gives capture devices silence.
func run(t *testing.T, s api.Service, events ...api.Event) api.Service {
	t.Helper()
	for i, e := range events {
		x, a, _ := step(t, s, e)
		if a.Code != api.OK {
			t.Fatal("event", i, "is refused:", a.Code)
		}
		s = x
	}
	return s
}

func step(t *testing.T, s api.Service, e api.Event) (api.Service, api.Answer, api.Result) {
	t.Helper()
	if e.Kind == api.EvQuantum && e.Recorded == nil {
		due, _ := engine.Due(s.Engine)
		for i, o := range s.Engine.Outlets {
			if d := o.Device; d.Descriptor.Direction == api.Capture {
				b, _ := sample.Silence(len(d.Choice.Format.Map), due[i])
				e.Recorded = append(e.Recorded, api.Captured{Device: d.Descriptor.ID, Block: b})
			}
		}
	}
	x, a, r := Step(s, e)
	check(t, x)
	return x, a, r
}

func begun(t *testing.T) api.Service {
	s, e := New(setup())
	if e != api.OK {
		t.Fatal(e)
	}
	return s
}

// hosting has the playback devices 5 (speaker-a), 7 (headset-b) and the capture device 6 (mic).
func hosting(t *testing.T) api.Service {
	return run(t, begun(t), plugging(describes(7, "headset-b", 1), clockOf(1, 1)), plugging(describes(5, "speaker-a", 1), clockOf(1, 1)), plugging(describes(6, "mic", 2), clockOf(1, 1)), quantum, quantum)
}

// refused checks that an event is refused and changes nothing.
func refused(t *testing.T, s api.Service, e api.Event, want api.Errno) {
	t.Helper()
	x, a, r := Step(s, e)
	if !reflect.DeepEqual(a, api.Answer{Code: want}) || !reflect.DeepEqual(x, s) || !reflect.DeepEqual(r, api.Result{}) {
		t.Error("not refused as it must be:", a.Code, want, reflect.DeepEqual(x, s))
	}
}

// P42.1
func TestValidAndNew(t *testing.T) {
	s := begun(t)
	e, _ := engine.New(48000, period)
	r, _ := recorder.New(api.MaxLog)
	want := api.Service{Setup: setup(), Engine: e, Book: api.Book{Budget: api.Budget{Workers: 2, Capacity: 100000, Period: period}}, Plugs: api.Plugs{Settle: 2}, Recorder: r}
	if !reflect.DeepEqual(s, want) || !Valid(setup()) {
		t.Error(s)
	}
	for i, change := range []func(*api.Setup){
		func(s *api.Setup) { s.Rate = 7999 }, func(s *api.Setup) { s.Rate = 192001 }, func(s *api.Setup) { s.Period = 15 }, func(s *api.Setup) { s.Period = 8193 }, func(s *api.Setup) { s.Workers = 0 }, func(s *api.Setup) { s.Workers = 9 }, func(s *api.Setup) { s.Capacity = -1 }, func(s *api.Setup) { s.Capacity = api.MaxCost + 1 },
		func(s *api.Setup) { s.Settle = -1 }, func(s *api.Setup) { s.Settle = api.MaxQuanta + 1 }, func(s *api.Setup) { s.Fade = 0 }, func(s *api.Setup) { s.Fade = api.MaxQuanta + 1 }, func(s *api.Setup) { s.Slope.Attack = 0 }, func(s *api.Setup) { s.Slope.Release = api.MaxGain + 1 }, func(s *api.Setup) { s.Slope.Hold = -1 },
		func(s *api.Setup) { s.Threshold = 0 }, func(s *api.Setup) { s.Threshold = api.MaxSample + 1 }, func(s *api.Setup) { s.Release = 0 }, func(s *api.Setup) { s.Release = api.Unit + 1 },
	} {
		x := setup()
		change(&x)
		if s, e := New(x); Valid(x) || e != api.ErrRange || !reflect.DeepEqual(s, api.Service{}) {
			t.Error(i, e)
		}
	}
}

// P42.2
func TestSmall(t *testing.T) {
	for name, want := range map[string]string{"speaker-a": "speaker", "mic": "mic", "a-b-c": "a", "-x": "", "": ""} {
		if Class(name) != want {
			t.Error(name, Class(name))
		}
	}
	for n, want := range map[int][]int{1: {3}, 2: {1, 2}, 3: {1, 2, 3}, 8: {1, 2, 3, 4, 5, 6, 7, 8}, 0: nil, 9: nil, -1: nil} {
		if !slices.Equal(Positions(n), want) {
			t.Error(n, Positions(n))
		}
	}
	for _, c := range [][4]int{{api.Playback, 48000, 272, 132}, {api.Capture, 48000, 272, 0}, {api.Playback, 44100, 252, 122}, {api.Playback, 96000, 528, 260}} {
		if a, b := Sizes(setup(), c[0], c[1]); a != c[2] || b != c[3] {
			t.Error(c, a, b)
		}
	}
}

// P42.3
func TestViews(t *testing.T) {
	s := run(t, hosting(t), opening(4, "voice", api.Capture, 1, 5000), opening(3, "music", api.Playback, 2, 5000), ask(api.ReqStart, 4, 0), asking(api.Request{Kind: api.ReqMove, ID: 3, Device: 7}))
	if l := Wants(s); !slices.Equal(l, []api.Want{{ID: 3, Role: "music", Direction: 1, Pinned: 7}, {ID: 4, Role: "voice", Direction: 2, Active: true}}) {
		t.Error(l)
	}
	if l := Sinks(s); !slices.Equal(l, []api.Sink{{ID: 5, Class: "speaker", Direction: 1}, {ID: 6, Class: "mic", Direction: 2}, {ID: 7, Class: "headset", Direction: 1}}) {
		t.Error(l)
	}
	d := s.Engine.Outlets[0].Device
	most, _ := device.Latency(d)
	l, _ := latency.Of(api.Journey{Master: 48000, Rate: 48000, DeviceRate: 48000, Ring: 272, Period: period, Target: most})
	if Needed(s, 3, 5) != latency.Total(l) || Needed(s, 3, 5) != 272+2+64+most || Needed(s, 9, 5) != 0 || Needed(s, 3, 9) != 0 || Needed(s, 3, 0) != 0 {
		t.Error(Needed(s, 3, 5), most)
	}
	s = run(t, s, asking(api.Request{Kind: api.ReqWrite, ID: 3, Data: make([]byte, 400)}))
	quanta := (d.Bridge.Capacity + period - 1) / period
	if want := 100 + 2 + 64 + most - period*quanta + bridge.Fill(d.Bridge); Measured(s, 3) != want || Measured(s, 4) != 0 || Measured(s, 9) != 0 {
		t.Error(Measured(s, 3), want)
	}
	routed, _ := engine.Route(s.Engine, 3, 0)
	s.Engine = routed
	if Measured(s, 3) != 0 {
		t.Error("a stream without a device")
	}
	s = run(t, hosting(t), opening(3, "music", api.Playback, 2, 5000))
	s.Session.Streams = nil
	if Needed(s, 3, 5) != 0 || Measured(s, 3) != 0 {
		t.Error("a voice of no open stream")
	}
}

// P42.4
func TestOpen(t *testing.T) {
	s := hosting(t)
	refused(t, begun(t), opening(3, "music", api.Playback, 2, 5000), api.ErrNone)
	refused(t, s, asking(api.Request{Kind: api.ReqOpen}), api.ErrInvalid)
	refused(t, s, asking(api.Request{}), api.ErrInvalid)
	x := run(t, s, opening(3, "music", api.Playback, 2, 5000))
	v, k := x.Engine.Voices[0], x.Session.Streams[0]
	want, _ := stream.New(api.Playback, 2, api.Ratio{Num: 1, Den: 1}, 272, 132)
	if v.Device != 5 || !reflect.DeepEqual(v.Stream, want) || k != (api.Kept{ID: 3, Role: "music", Direction: 1, Channels: 2, Rate: 48000, Latency: 5000, Volume: 100}) || x.Faders[0] != (api.Fader{ID: 3}) || !slices.Equal(x.Book.Seats, []api.Seat{{ID: 3, Device: 5, Channels: 2, Latency: Needed(x, 3, 5)}}) {
		t.Error(v, k, x.Faders, x.Book.Seats)
	}
	record, _ := session.Encode(api.Record{Kind: api.RecOpen, ID: 3, Role: "music", Direction: 1, Channels: 2, Rate: 48000, Latency: 5000})
	if b, _ := journal.Append(s.Journal, record); !bytes.Equal(x.Journal, b) {
		t.Error("the journal")
	}
	refused(t, x, opening(3, "music", api.Playback, 2, 5000), api.ErrExists)
	refused(t, x, opening(4, "music", api.Playback, 2, Needed(x, 3, 5)-1), api.ErrFull)
	run(t, x, opening(4, "music", api.Playback, 2, Needed(x, 3, 5)))
	wide := opening(4, "music", api.Playback, 2, 5000)
	wide.Request.Rate = 768000
	run(t, x, wide)
	tight := setup()
	tight.Capacity = 1500
	y, _ := New(tight)
	y = run(t, y, plugging(describes(5, "speaker-a", 1), clockOf(1, 1)), quantum, quantum)
	refused(t, y, opening(3, "music", api.Playback, 2, 5000), api.ErrFull)
	huge := setup()
	huge.Period, huge.Capacity = 8192, api.MaxCost
	z, _ := New(huge)
	small := describes(5, "speaker-a", 1)
	small.Drift = 0
	z = run(t, z, plugging(small, clockOf(1, 1)), quantum, quantum)
	wide.Request.Rate = 192000
	refused(t, z, wide, api.ErrInvalid) // the capacity is too great for a stream
	for id := 10; len(x.Session.Streams) < api.MaxStreams; id++ {
		x = run(t, x, opening(id, "music", api.Playback, 1, 5000))
	}
	refused(t, x, opening(3, "music", api.Playback, 1, 5000), api.ErrExists)
	refused(t, x, opening(4, "music", api.Playback, 1, 5000), api.ErrLimit)
	routed := run(t, s, asking(api.Request{Kind: api.ReqRules, Text: "route music headset when active voice\nroute any headset when not active music"}), opening(3, "music", api.Playback, 2, 5000))
	if routed.Engine.Voices[0].Device != 7 {
		t.Error("rules decide, and a stream that opens is not active")
	}
}

// P42.4
func TestStreamRequests(t *testing.T) {
	s := run(t, hosting(t), opening(3, "music", api.Playback, 2, 5000), opening(4, "voice", api.Capture, 2, 5000))
	for _, kind := range []int{api.ReqClose, api.ReqStart, api.ReqPause, api.ReqDrain, api.ReqVolume, api.ReqMute, api.ReqWrite, api.ReqRead, api.ReqMove} {
		refused(t, s, ask(kind, 9, 0), api.ErrMissing)
	}
	refused(t, s, ask(api.ReqVolume, 9, 101), api.ErrInvalid)
	refused(t, s, ask(api.ReqStart, 3, 0), api.ErrState)
	refused(t, s, ask(api.ReqPause, 3, 0), api.ErrState)
	refused(t, s, ask(api.ReqDrain, 4, 0), api.ErrState)
	data := make([]byte, 1024)
	for i := range data {
		data[i] = byte(i * 7)
	}
	writing := func(n int) api.Event { return asking(api.Request{Kind: api.ReqWrite, ID: 3, Data: data[:n]}) }
	x := run(t, s, writing(403))
	samples, _ := sample.Decode(api.S16LE, data[:400])
	if v := x.Engine.Voices[0].Stream; !slices.Equal(v.Resample.Rest, samples) || v.Written != 100 || v.State != api.Ready {
		t.Error("whole frames are written")
	}
	refused(t, x, ask(api.ReqStart, 3, 0), api.ErrShort)
	x = run(t, x, writing(200), ask(api.ReqStart, 3, 0))
	state := func(s api.Service) int { return s.Engine.Voices[0].Stream.State }
	paused := run(t, x, ask(api.ReqPause, 3, 0))
	if state(x) != api.Running || state(paused) != api.Paused || state(run(t, paused, ask(api.ReqStart, 3, 0))) != api.Running || state(run(t, paused, ask(api.ReqDrain, 3, 0))) != api.Draining {
		t.Error("states")
	}
	refused(t, x, writing(1024), api.ErrFull)
	refused(t, x, asking(api.Request{Kind: api.ReqWrite, ID: 4, Data: data}), api.ErrInvalid)
	refused(t, x, ask(api.ReqRead, 3, 5), api.ErrInvalid)
	if y := run(t, x, ask(api.ReqVolume, 3, 40), ask(api.ReqMute, 4, 1)); y.Session.Streams[0].Volume != 40 || !y.Session.Streams[1].Muted || run(t, y, ask(api.ReqMute, 4, 0)).Session.Streams[1].Muted {
		t.Error("volume and mute")
	}
	z := run(t, x, ask(api.ReqClose, 3, 0))
	if len(z.Session.Streams) != 1 || len(z.Book.Seats) != 1 || len(z.Faders) != 1 || len(z.Engine.Voices) != 1 {
		t.Error("close")
	}
}

// P42.4
func TestReadAndList(t *testing.T) {
	s := run(t, hosting(t), opening(4, "voice", api.Capture, 2, 5000), opening(3, "music", api.Playback, 1, 5000), ask(api.ReqStart, 4, 0))
	b := api.Block{Channels: 2}
	for i := range 2 * period {
		b.Data = append(b.Data, int32(i*256))
	}
	for range 15 {
		s = run(t, s, api.Event{Kind: api.EvQuantum, Recorded: []api.Captured{{Device: 6, Block: b}}})
	}
	waits := stream.Waiting(s.Engine.Voices[1].Stream)
	want, after, _ := engine.Read(s.Engine, 4, 256)
	encoded, _ := sample.Encode(api.S16LE, want.Data)
	x, a, _ := step(t, s, ask(api.ReqRead, 4, 1000))
	if a.Code != api.OK || !bytes.Equal(a.Data, encoded) || len(a.Data) != min(waits, 256)*4 || !reflect.DeepEqual(x.Engine, after) || len(a.Data) == 0 {
		t.Error(a.Code, len(a.Data), waits)
	}
	if _, a, _ := step(t, s, ask(api.ReqRead, 4, 7)); len(a.Data) != 28 {
		t.Error(len(a.Data))
	}
	_, a, _ = step(t, s, asking(api.Request{Kind: api.ReqList}))
	if a.Code != api.OK || a.Text != "3 music 1 5\n4 voice 3 6\n" || a.Data != nil {
		t.Errorf("%q", a.Text)
	}
	long := strings.Repeat("r", api.MaxName)
	text := ""
	for id := 100; id < 122; id++ {
		s = run(t, s, opening(id, long, api.Playback, 1, 5000))
	}
	_, a, _ = step(t, s, asking(api.Request{Kind: api.ReqList}))
	text = "3 music 1 5\n4 voice 3 6\n"
	for id := 100; len(text)+73 <= 1500; id++ {
		text += "1" + string(rune('0'+(id-100)/10)) + string(rune('0'+id%10)) + " " + long + " 1 5\n"
	}
	if a.Text != text {
		t.Errorf("%d %d\n%s", len(a.Text), len(text), a.Text)
	}
}

// P42.4
func TestMoveAndRules(t *testing.T) {
	s := run(t, hosting(t), opening(3, "music", api.Playback, 2, 5000), opening(4, "voice", api.Capture, 1, 5000))
	moving := func(id int, to uint64) api.Event {
		return asking(api.Request{Kind: api.ReqMove, ID: id, Device: to})
	}
	refused(t, s, moving(3, 6), api.ErrMissing)
	refused(t, s, moving(3, 8), api.ErrMissing)
	refused(t, s, moving(4, 5), api.ErrMissing)
	x := run(t, s, moving(3, 7))
	if x.Session.Streams[0].Pinned != 7 || !reflect.DeepEqual(x.Session.Memory.Choices, []api.Choose{{Role: "music", Set: []uint64{5, 7}, Device: 7}}) || x.Engine.Voices[0].Device != 5 {
		t.Error(x.Session)
	}
	y := run(t, x, moving(3, 0))
	if y.Session.Streams[0].Pinned != 0 || len(y.Session.Memory.Choices) != 1 {
		t.Error(y.Session)
	}
	setting := func(text string) api.Event { return asking(api.Request{Kind: api.ReqRules, Text: text}) }
	refused(t, s, setting("hush"), api.ErrSyntax)
	refused(t, s, setting(strings.Repeat("mute a\n", 65)), api.ErrLimit)
	z := run(t, s, setting("mute music\n"))
	if want, _, _ := rules.Parse("mute music"); !rules.Same(z.Rules, want) || z.Session.Text != "mute music\n" {
		t.Error(z.Rules)
	}
}

// P42.5
func TestPlug(t *testing.T) {
	s := begun(t)
	good := describes(5, "speaker-a", 1)
	x := run(t, s, plugging(good, clockOf(1, 1)))
	want := api.Known{Descriptor: good, Choice: api.Choice{Format: api.Format{Kind: api.S24LE, Rate: 48000, Map: []int{1, 2}}, Size: period}, Clock: clockOf(1, 1)}
	if !reflect.DeepEqual(x.Known, []api.Known{want}) || !slices.Equal(x.Plugs.Seen, []api.Sighting{{ID: 5}}) || !slices.Equal(x.Facts, []api.Fact{{Kind: api.FactPlug, Device: 5}}) || len(x.Engine.Outlets) != 0 {
		t.Error(x.Known, x.Facts)
	}
	with := func(change func(*api.Descriptor)) api.Descriptor {
		d := describes(5, "speaker-a", 1)
		change(&d)
		return d
	}
	refused(t, s, api.Event{Kind: api.EvPlug}, api.ErrShort)
	refused(t, s, api.Event{Kind: api.EvPlug, Bytes: make([]byte, 8)}, api.ErrChecksum)
	refused(t, x, plugging(with(func(d *api.Descriptor) { d.ID = 0 }), api.Clock{}), api.ErrRange)
	refused(t, x, plugging(with(func(d *api.Descriptor) { d.ID = 1<<53 + 1 }), api.Clock{}), api.ErrRange)
	refused(t, x, plugging(good, api.Clock{}), api.ErrInvalid)
	refused(t, x, plugging(good, clockOf(1, 1)), api.ErrExists)
	narrow := with(func(d *api.Descriptor) { d.Boxes[0].Rates = spans(1000, 1000); d.Jitter = 4096 })
	slow := setup()
	slow.Rate = 192000
	y, _ := New(slow)
	refused(t, y, plugging(narrow, clockOf(1, 1)), api.ErrMismatch)
	run(t, s, plugging(with(func(d *api.Descriptor) { d.ID = 1 << 53 }), clockOf(1, 1)))
	for id := uint64(10); len(x.Known) < api.MaxDevices; id++ {
		x = run(t, x, plugging(describes(id, "x", 2), clockOf(1, 1)))
	}
	refused(t, x, plugging(describes(99, "x", 2), clockOf(1, 1)), api.ErrLimit)
	x = run(t, x, quantum)
	if len(x.Engine.Outlets) != 0 {
		t.Error("they have not settled yet")
	}
	x = run(t, x, quantum)
	if len(x.Engine.Outlets) != 8 || len(x.Watches) != 8 || x.Watches[0].Device != 5 || x.Watches[0].Transfers != nil || x.Engine.Outlets[0].Device.Since != 2*period {
		t.Error("they have settled")
	}
}

// P42.5
func TestUnplug(t *testing.T) {
	unplugging := func(id uint64) api.Event { return api.Event{Kind: api.EvUnplug, Device: id} }
	s := run(t, hosting(t), opening(3, "music", api.Playback, 2, 5000), asking(api.Request{Kind: api.ReqRules, Text: "route any headset"}))
	refused(t, s, unplugging(9), api.ErrMissing)
	x := run(t, s, unplugging(5))
	if len(x.Known) != 2 || len(x.Plugs.Seen) != 2 || len(x.Book.Seats) != 0 || x.Engine.Voices[0].Device != 0 || x.Facts[len(x.Facts)-1] != (api.Fact{Kind: api.FactUnplug, At: 2, Device: 5}) {
		t.Error(x.Book, x.Facts)
	}
	early := run(t, begun(t), plugging(describes(5, "speaker-a", 1), clockOf(1, 1)), unplugging(5))
	if len(early.Known)+len(early.Plugs.Seen) != 0 || len(early.Facts) != 2 {
		t.Error(early)
	}
	moving := run(t, s, quantum) // to the headset, fading out on the speaker
	if len(moving.Moves) != 1 || moving.Moves[0].Phase != api.MoveOut || moving.Book.Seats[0].Device != 7 || moving.Engine.Voices[0].Device != 5 {
		t.Fatal(moving.Moves)
	}
	to := run(t, moving, unplugging(7))
	if len(to.Moves)+len(to.Book.Seats) != 0 || to.Engine.Voices[0].Device != 0 || len(to.Watches) != 2 {
		t.Error(to.Moves, to.Book)
	}
	from := run(t, moving, unplugging(5))
	if len(from.Moves) != 0 || len(from.Book.Seats) != 1 || from.Engine.Voices[0].Device != 0 {
		t.Error(from.Moves, from.Book)
	}
	back := run(t, from, quantum)
	if len(back.Moves) != 1 || back.Moves[0].Phase != api.MoveIn || back.Engine.Voices[0].Device != 7 {
		t.Error(back.Moves)
	}
}

// P42.6
func TestDie(t *testing.T) {
	s := run(t, hosting(t), opening(3, "music", api.Playback, 2, 5000))
	refused(t, s, api.Event{Kind: api.EvDie, ID: 4}, api.ErrMissing)
	x := run(t, s, api.Event{Kind: api.EvDie, ID: 3})
	closed := run(t, s, ask(api.ReqClose, 3, 0))
	if x.Facts[len(x.Facts)-1] != (api.Fact{Kind: api.FactDead, At: 2, Stream: 3}) {
		t.Error(x.Facts)
	}
	x.Facts = closed.Facts
	if !reflect.DeepEqual(x, closed) {
		t.Error("a dead client's stream is closed")
	}
}

// P42.9
func TestStep(t *testing.T) {
	s := hosting(t)
	refused(t, s, api.Event{}, api.ErrInvalid)
	refused(t, s, api.Event{Kind: 7}, api.ErrInvalid)
	refused(t, s, api.Event{Kind: -1}, api.ErrInvalid)
	refused(t, api.Service{}, api.Event{Kind: api.EvQuantum}, api.ErrInvalid)
	refused(t, api.Service{}, api.Event{Kind: api.EvRestart}, api.ErrRange)
	before, _, _ := Step(s, api.Event{})
	x, a, r := step(t, s, quantum)
	if a.Code != api.OK || a.Data != nil || a.Text != "" || r.At != 2 || len(r.Played) != 3 || x.Engine.Now != 3 {
		t.Error(a, r)
	}
	x.Journal = append(x.Journal[:0], 9)
	x.Known[0].Descriptor.Boxes[0].Maps[0][0], x.Known[0].Clock.Segments[0].From, x.Facts[0].At, x.Watches[0].Transfers[0].Pull = 7, 7, 7, 7
	r.Played[0].Mixed.Data[0] = 7
	if !reflect.DeepEqual(s, before) {
		t.Error("shared memory")
	}
	_, a, r = step(t, s, asking(api.Request{Kind: api.ReqList}))
	if a.Code != api.OK || !reflect.DeepEqual(r, api.Result{}) {
		t.Error("only a quantum has a result")
	}
}

// fed is a service in which the stream 3 plays and is fed in each quantum.
func fed(t *testing.T, s api.Service, quanta int, each func(int, api.Service, api.Result)) api.Service {
	t.Helper()
	for i := range quanta {
		s = run(t, s, asking(api.Request{Kind: api.ReqWrite, ID: 3, Data: make([]byte, 4*period)}))
		x, a, r := step(t, s, quantum)
		if a.Code != api.OK {
			t.Fatal(a.Code)
		}
		s = x
		each(i, s, r)
	}
	return s
}

func playing(t *testing.T) api.Service {
	return run(t, hosting(t), opening(3, "music", api.Playback, 2, 5000), asking(api.Request{Kind: api.ReqWrite, ID: 3, Data: make([]byte, 800)}), ask(api.ReqStart, 3, 0))
}

// P42.7: gains, moves and facts.
func TestMoves(t *testing.T) {
	s := fed(t, playing(t), 10, func(i int, s api.Service, r api.Result) {
		gains := []int{20000, 40000, 60000, 65536}
		if want := gains[min(i, 3)]; s.Faders[0].Envelope.Gain != want || r.Heard[0].Ramp.To != want || r.Heard[0].Ramp.Frames != period {
			t.Error(i, s.Faders, r.Heard)
		}
		if len(r.Glitches)+len(s.Moves) != 0 || r.Heard[0].Granted != 5000 || r.Heard[0].Latency != Measured(s, 3) || r.Heard[0].Latency > 5000 || r.Heard[0].Latency == 0 {
			t.Error(i, r.Heard)
		}
	})
	s = run(t, s, asking(api.Request{Kind: api.ReqMove, ID: 3, Device: 7}))
	var phases, gains, devices []int
	s = fed(t, s, 9, func(i int, s api.Service, r api.Result) {
		phase := 0
		if len(s.Moves) > 0 {
			phase = 10*s.Moves[0].Phase + s.Moves[0].Left
		}
		phases, gains, devices = append(phases, phase), append(gains, s.Faders[0].Envelope.Gain), append(devices, int(r.Heard[0].Device))
	})
	if !slices.Equal(phases, []int{12, 11, 23, 22, 21, 0, 0, 0, 0}) || !slices.Equal(gains, []int{35536, 5536, 0, 0, 0, 20000, 40000, 60000, 65536}) || !slices.Equal(devices, []int{5, 5, 5, 7, 7, 7, 7, 7, 7}) {
		t.Error(phases, gains, devices)
	}
	if s.Facts[len(s.Facts)-1] != (api.Fact{Kind: api.FactMove, At: 15, Stream: 3, Device: 7}) || s.Book.Seats[0].Device != 7 || len(s.Moves) != 0 {
		t.Error(s.Facts)
	}
	muted := fed(t, run(t, s, ask(api.ReqMute, 3, 1)), 4, func(int, api.Service, api.Result) {})
	quiet := fed(t, run(t, s, ask(api.ReqVolume, 3, 50)), 4, func(int, api.Service, api.Result) {})
	ducked := fed(t, run(t, s, asking(api.Request{Kind: api.ReqRules, Text: "duck music 50\nroute any headset"}), ask(api.ReqVolume, 3, 50)), 4, func(int, api.Service, api.Result) {})
	if muted.Faders[0].Envelope.Gain != 0 || quiet.Faders[0].Envelope.Gain != 8192 || ducked.Faders[0].Envelope.Gain != 4096 {
		t.Error(muted.Faders, quiet.Faders, ducked.Faders)
	}
}

// P42.7: a stream moves only where it is admitted.
func TestNoMove(t *testing.T) {
	s := playing(t)
	far := describes(8, "tv-far", 1)
	far.Latency = 1 << 20
	s = run(t, s, plugging(far, clockOf(1, 1)), quantum, quantum)
	if len(s.Engine.Outlets) != 4 {
		t.Fatal("it is hosted")
	}
	before := s.Book
	s = run(t, s, asking(api.Request{Kind: api.ReqMove, ID: 3, Device: 8}), quantum)
	if len(s.Moves) != 0 || !reflect.DeepEqual(s.Book, before) || s.Engine.Voices[0].Device != 5 {
		t.Error(s.Moves, s.Book)
	}
	tight := setup()
	tight.Capacity = 2000
	x, _ := New(tight)
	x = run(t, x, plugging(describes(5, "a", 1), clockOf(1, 1)), plugging(describes(6, "b", 1), clockOf(1, 1)), quantum, quantum, quantum)
	if len(x.Engine.Outlets) != 1 || x.Engine.Outlets[0].Device.Descriptor.ID != 5 {
		t.Error("there is room for one device")
	}
	x = run(t, x, api.Event{Kind: api.EvUnplug, Device: 5}, quantum)
	if len(x.Engine.Outlets) != 1 || x.Engine.Outlets[0].Device.Descriptor.ID != 6 {
		t.Error("there is room for the other one")
	}
}

// P42.7: what is late, unread or drifting, and what the recorder keeps.
func TestFacts(t *testing.T) {
	s := run(t, playing(t), opening(4, "voice", api.Capture, 1, 5000), ask(api.ReqStart, 4, 0))
	late, unread, shorts := 0, 0, 0
	for range 12 {
		before := len(s.Facts)
		x, _, r := step(t, s, quantum)
		for _, f := range x.Facts[before:] {
			if f.At != r.At {
				t.Error(f)
			}
			switch f {
			case api.Fact{Kind: api.FactLate, At: r.At, Stream: 3}:
				late++
			case api.Fact{Kind: api.FactUnread, At: r.At, Stream: 4}:
				unread++
			default:
				t.Error(f)
			}
		}
		for _, g := range r.Glitches {
			if !glitch.Valid(g) {
				t.Error(g)
			}
			if g.Kind == api.GlitchShort {
				shorts++
			}
		}
		s = x
	}
	if late < 8 || late != shorts || unread < 5 || s.Recorder.Counts[api.GlitchShort] != shorts || s.Recorder.Counts[api.GlitchFull] != unread || len(s.Recorder.Last) != 2+2*(unread-1) {
		t.Error(late, shorts, unread, s.Recorder)
	}
	measured := 0
	for _, n := range s.Recorder.Buckets {
		measured += n
	}
	if measured != 12 {
		t.Error(measured)
	}
	fast := run(t, begun(t), plugging(describes(5, "a", 1), clockOf(33, 32)), quantum, quantum)
	drift := []int64{}
	for range 40 {
		before := len(fast.Facts)
		x, _, r := step(t, fast, quantum)
		for _, f := range x.Facts[before:] {
			if f.Kind != api.FactDrift || f.At != r.At || f.Device != 5 {
				t.Error(f)
			}
			drift = append(drift, f.At)
		}
		if len(r.Glitches) > 0 && !x.Watches[0].Broken {
			t.Error("a glitch before the watch is broken")
		}
		if len(x.Watches[0].Transfers) != len(fast.Watches[0].Transfers)+1 || x.Watches[0].Transfers[0] != (api.Transfer{Pull: 66, Push: 64}) {
			t.Error(x.Watches)
		}
		fast = x
	}
	if len(drift) < 30 || drift[len(drift)-1] != 41 {
		t.Error(drift)
	}
	refused(t, s, api.Event{Kind: api.EvQuantum, Recorded: []api.Captured{{Device: 5}}}, api.ErrMismatch)
	full := s
	full.Facts = slices.Repeat([]api.Fact{{Kind: api.FactMove}}, api.MaxFacts)
	full.Facts[1].At = 5
	if x := run(t, full, api.Event{Kind: api.EvDie, ID: 3}); len(x.Facts) != api.MaxFacts || x.Facts[0].At != 5 || x.Facts[api.MaxFacts-1].Kind != api.FactDead {
		t.Error("the first fact goes")
	}
}

// P42.8
func TestRestart(t *testing.T) {
	s := run(t, playing(t), opening(4, "voice", api.Capture, 1, 5000), ask(api.ReqVolume, 4, 30), asking(api.Request{Kind: api.ReqMove, ID: 3, Device: 7}), asking(api.Request{Kind: api.ReqRules, Text: "mute voice"}), quantum, quantum)
	x := run(t, s, api.Event{Kind: api.EvRestart})
	if !reflect.DeepEqual(x.Session, s.Session) || !rules.Same(x.Rules, s.Rules) || !reflect.DeepEqual(x.Known, s.Known) || !bytes.Equal(x.Journal, s.Journal) || !reflect.DeepEqual(x.Recorder, s.Recorder) || x.Engine.Now != s.Engine.Now {
		t.Error("what stays")
	}
	if len(x.Engine.Outlets)+len(x.Book.Devices)+len(x.Book.Seats)+len(x.Moves)+len(x.Watches) != 0 || !slices.Equal(x.Plugs.Seen, []api.Sighting{{ID: 5, Since: 4}, {ID: 6, Since: 4}, {ID: 7, Since: 4}}) || !slices.Equal(x.Faders, []api.Fader{{ID: 3}, {ID: 4}}) {
		t.Error("what begins anew")
	}
	if !reflect.DeepEqual(x.Facts, append(slices.Clone(s.Facts), api.Fact{Kind: api.FactRestart, At: 4})) {
		t.Error(x.Facts)
	}
	for _, v := range x.Engine.Voices {
		if v.Device != 0 || v.Stream.State != api.Idle || v.Stream.Capacity != 272 {
			t.Error(v)
		}
	}
	x = run(t, x, quantum, quantum)
	if len(x.Engine.Outlets) != 3 {
		t.Error("they settle again")
	}
	x = run(t, x, quantum)
	if x.Engine.Voices[0].Device != 7 || x.Engine.Voices[1].Device != 6 || len(x.Book.Seats) != 2 {
		t.Error("streams are where they were", x.Engine.Voices[0].Device)
	}
	torn := s
	torn.Journal = append(slices.Clone(s.Journal), 1, 2, 3)
	y, a, _ := Step(torn, api.Event{Kind: api.EvRestart})
	if a.Code != api.OK || !reflect.DeepEqual(y.Session, s.Session) || !bytes.Equal(y.Journal, s.Journal) {
		t.Error("a torn journal")
	}
	var b []byte
	for _, r := range []api.Record{{Kind: api.RecOpen, ID: 2, Role: "a", Direction: 1, Channels: 1, Rate: 48000}, {Kind: api.RecOpen, ID: 9, Role: "a", Direction: 1, Channels: 1, Rate: 768000}} {
		record, _ := session.Encode(r)
		b, _ = journal.Append(b, record)
	}
	wide := setup()
	wide.Period = 8192
	z, _ := New(wide)
	z.Journal = b
	z, a, _ = Step(z, api.Event{Kind: api.EvRestart})
	check(t, z)
	if a.Code != api.OK || len(z.Session.Streams) != 1 || z.Session.Streams[0].ID != 2 || len(z.Journal) <= len(b) {
		t.Error("a stream that cannot be opened is closed", z.Session)
	}
}

// P42.4: a journal that is full is written anew.
func TestJournalIsRewritten(t *testing.T) {
	s := run(t, hosting(t), opening(3, "music", api.Playback, 2, 5000))
	text := asking(api.Request{Kind: api.ReqRules, Text: strings.Repeat("#", 1500)})
	most := 0
	for range 60 {
		s = run(t, s, text)
		if len(s.Journal) < most {
			break
		}
		most = len(s.Journal)
	}
	var want []byte
	for _, r := range session.Records(s.Session) {
		record, _ := session.Encode(r)
		want, _ = journal.Append(want, record)
	}
	if most < api.MaxJournal-2000 || !bytes.Equal(s.Journal, want) {
		t.Error(most, len(s.Journal))
	}
}

// P42.1: the least setup, and a device and a stream with the ID 1.
func TestLeast(t *testing.T) {
	least := api.Setup{Rate: 8000, Period: 16, Workers: 1, Fade: 1, Slope: api.Slope{Attack: 1, Release: 1}, Threshold: 1, Release: 1}
	most := api.Setup{Rate: 192000, Period: 8192, Workers: 8, Capacity: api.MaxCost, Settle: api.MaxQuanta, Fade: api.MaxQuanta, Slope: api.Slope{Attack: api.MaxGain, Release: api.MaxGain, Hold: api.MaxQuanta}, Threshold: api.MaxSample, Release: api.Unit}
	if !Valid(least) || !Valid(most) {
		t.Error("the edges of setups")
	}
	s := run(t, begun(t), plugging(describes(2, "b", 1), clockOf(1, 1)), quantum, quantum, opening(1, "music", api.Playback, 1, 5000), asking(api.Request{Kind: api.ReqWrite, ID: 1, Data: make([]byte, 2*200)}), ask(api.ReqStart, 1, 0), plugging(describes(1, "a", 1), clockOf(1, 1)), quantum, quantum, asking(api.Request{Kind: api.ReqMove, ID: 1, Device: 1}))
	for range 6 {
		s = run(t, s, quantum)
	}
	if s.Engine.Voices[0].Device != 1 || Measured(s, 1) == 0 || len(s.Moves) != 0 {
		t.Error(s.Engine.Voices[0].Device, s.Moves)
	}
}

// P42.3: all rests of the capacity.
func TestMeasuredTarget(t *testing.T) {
	s := run(t, hosting(t), opening(3, "music", api.Playback, 2, 5000))
	for capacity := 300; capacity < 440; capacity++ {
		s.Engine.Outlets[0].Device.Bridge.Capacity = capacity
		d := s.Engine.Outlets[0].Device
		if want := 0 + 2 + period + period + 10 + bridge.Fill(d.Bridge); Measured(s, 3) != want { // one quantum more, and the way to the air
			t.Fatal(capacity, Measured(s, 3), want)
		}
	}
}

// P42.4: other numbers of channels than 2.
func TestChannels(t *testing.T) {
	s := run(t, hosting(t), opening(3, "music", api.Playback, 3, 5000), opening(4, "voice", api.Capture, 1, 5000), ask(api.ReqStart, 4, 0), asking(api.Request{Kind: api.ReqWrite, ID: 3, Data: make([]byte, 6*20+5)}))
	if n := stream.Waiting(s.Engine.Voices[0].Stream); n != 20 {
		t.Error(n)
	}
	mono := run(t, s, opening(5, "music", api.Playback, 1, 5000), asking(api.Request{Kind: api.ReqWrite, ID: 5, Data: make([]byte, 2*20+1)}))
	if n := stream.Waiting(mono.Engine.Voices[2].Stream); n != 20 {
		t.Error(n)
	}
	s.Engine.Voices[1].Stream.Ring.Data, s.Engine.Voices[1].Stream.Ring.Written = make([]int32, 272), 272
	if _, a, _ := step(t, s, ask(api.ReqRead, 4, 1000)); len(a.Data) != 2*272 {
		t.Error(len(a.Data))
	}
	big := setup()
	big.Period = 1024
	x, _ := New(big)
	d := describes(6, "mic", 2)
	x = run(t, x, plugging(d, clockOf(1, 1)), quantum, quantum, opening(4, "voice", api.Capture, 3, 50000))
	x.Engine.Voices[0].Stream.Ring.Data, x.Engine.Voices[0].Stream.Ring.Written = make([]int32, 3*2000), 2000
	if _, a, _ := step(t, x, ask(api.ReqRead, 4, 1000)); len(a.Data) != 6*170 {
		t.Error(len(a.Data))
	}
}

// P42.4: a list of exactly so many bytes.
func TestListLimit(t *testing.T) {
	for extra, lines := range []int{21, 20} {
		s := hosting(t)
		for id := 100; id < 121; id++ {
			role := strings.Repeat("r", 64)
			if id == 120 {
				role = strings.Repeat("r", 31+extra)
			}
			s = run(t, s, opening(id, role, api.Playback, 1, 5000))
		}
		_, a, _ := step(t, s, asking(api.Request{Kind: api.ReqList}))
		if n := strings.Count(a.Text, "\n"); n != lines || len(a.Text) != 1460+40*(1-extra) {
			t.Error(extra, n, len(a.Text))
		}
	}
}

// P42.5, P42.6: what happens to one stream does not change the moves of others.
func TestOtherMoves(t *testing.T) {
	s := run(t, hosting(t), plugging(describes(8, "tv", 1), clockOf(1, 1)), quantum, quantum, opening(2, "voice", api.Playback, 1, 5000), opening(3, "music", api.Playback, 2, 5000), opening(4, "game", api.Playback, 2, 5000), asking(api.Request{Kind: api.ReqMove, ID: 2, Device: 7}), asking(api.Request{Kind: api.ReqMove, ID: 3, Device: 8}), quantum)
	streams := func(s api.Service) []int {
		var l []int
		for _, m := range s.Moves {
			l = append(l, m.Stream)
		}
		return l
	}
	if !slices.Equal(streams(s), []int{2, 3}) {
		t.Fatal(s.Moves)
	}
	x := run(t, s, api.Event{Kind: api.EvUnplug, Device: 8})
	if !slices.Equal(streams(x), []int{2}) || x.Engine.Voices[0].Device != 5 || x.Engine.Voices[1].Device != 0 || x.Engine.Voices[2].Device != 5 || len(x.Book.Seats) != 2 {
		t.Error(x.Moves, x.Book.Seats)
	}
	if y := run(t, s, ask(api.ReqClose, 3, 0)); !slices.Equal(streams(y), []int{2}) || len(y.Book.Seats) != 2 {
		t.Error(y.Moves)
	}
	if y := run(t, s, api.Event{Kind: api.EvDie, ID: 2}); !slices.Equal(streams(y), []int{3}) || len(y.Book.Seats) != 2 {
		t.Error(y.Moves)
	}
	for range 8 {
		s = run(t, s, quantum)
	}
	if len(s.Moves) != 0 || s.Engine.Voices[0].Device != 7 || s.Engine.Voices[1].Device != 8 {
		t.Error(s.Moves)
	}
}

// P42.7: streams that do not run, or have no device, owe nothing and are not measured.
func TestIdleStreams(t *testing.T) {
	s := run(t, playing(t), opening(4, "voice", api.Playback, 1, 5000), opening(5, "game", api.Playback, 2, 5000))
	x, _, r := step(t, s, quantum)
	for i, want := range []int{5000, 0, 0} {
		if h := r.Heard[i]; h.Granted != want || h.Latency != Measured(x, h.Stream)*want/5000 {
			t.Error(h)
		}
	}
	if len(x.Facts) != len(s.Facts) {
		t.Error(x.Facts)
	}
	alone := run(t, x, api.Event{Kind: api.EvUnplug, Device: 5}, api.Event{Kind: api.EvUnplug, Device: 7})
	before := alone.Recorder.Buckets
	facts := len(alone.Facts)
	for range 4 {
		y, _, r := step(t, alone, quantum)
		if h := r.Heard[0]; h.State != api.Running || h.Device != 0 || h.Latency != 0 || h.Granted != 0 || y.Recorder.Buckets != before {
			t.Error(h)
		}
		alone = y
	}
	if n := len(alone.Facts); n <= facts || alone.Facts[n-1] != (api.Fact{Kind: api.FactLate, At: alone.Engine.Now - 1, Stream: 3}) {
		t.Error(alone.Facts)
	}
}

// Facts are kept up to their greatest number.
func TestMaxFacts(t *testing.T) {
	s := playing(t)
	for _, n := range []int{api.MaxFacts - 1, api.MaxFacts} {
		s.Facts = slices.Repeat([]api.Fact{{Kind: api.FactMove}}, n)
		if x := run(t, s, api.Event{Kind: api.EvDie, ID: 3}); len(x.Facts) != api.MaxFacts {
			t.Error(n, len(x.Facts))
		}
	}
}

// P42.8: a stream that cannot be opened does not keep the others from it.
func TestRestartGoesOn(t *testing.T) {
	var b []byte
	for _, r := range []api.Record{{Kind: api.RecOpen, ID: 2, Role: "a", Direction: 1, Channels: 1, Rate: 768000}, {Kind: api.RecOpen, ID: 9, Role: "a", Direction: 1, Channels: 1, Rate: 48000}} {
		record, _ := session.Encode(r)
		b, _ = journal.Append(b, record)
	}
	wide := setup()
	wide.Period = 8192
	s, _ := New(wide)
	s.Journal = b
	s, a, _ := Step(s, api.Event{Kind: api.EvRestart})
	check(t, s)
	closing, _ := session.Encode(api.Record{Kind: api.RecClose, ID: 2})
	b, _ = journal.Append(b, closing)
	if a.Code != api.OK || len(s.Session.Streams) != 1 || s.Session.Streams[0].ID != 9 || !bytes.Equal(s.Journal, b) || !slices.Equal(s.Facts, []api.Fact{{Kind: api.FactRestart}}) {
		t.Error(s.Session, s.Facts)
	}
}
