package service

import (
	"slices"

	"soundservice/admission"
	"soundservice/analyser"
	"soundservice/api"
	"soundservice/duck"
	"soundservice/engine"
	"soundservice/gain"
	"soundservice/plug"
	"soundservice/policy"
	"soundservice/recorder"
	"soundservice/sample"
	"soundservice/stream"
)

// moveOf returns the move of a stream.
func (w *state) moveOf(id int) (api.Move, bool) {
	at := slices.IndexFunc(w.Moves, func(m api.Move) bool { return m.Stream == id })
	if at < 0 {
		return api.Move{}, false
	}
	return w.Moves[at], true
}

// begin lets a stream move to a device, if it is admitted there.
func (w *state) begin(k api.Kept, goal uint64) {
	v, open := voiceOf(w.Service, k.ID)
	if _, moves := w.moveOf(k.ID); moves || !open || goal == 0 || goal == v.Device {
		return
	}
	before := w.Book
	if w.unseat(k.ID) != api.OK {
		return
	}
	seat := api.Seat{ID: k.ID, Device: goal, Channels: k.Channels, Latency: k.Latency}
	book, _, e := admission.Admit(w.Book, seat, Needed(w.Service, k.ID, goal))
	if e != api.OK {
		w.Book = before
		return
	}
	w.Book = book
	m := plug.Begin(k.ID, v.Device, goal, w.Setup.Fade)
	w.Moves = insert(w.Moves, m, func(other api.Move) bool { return other.Stream < k.ID })
}

// arrive routes the streams that are to fade in on another device.
func (w *state) arrive() api.Errno {
	for _, m := range w.Moves {
		v, open := voiceOf(w.Service, m.Stream)
		if m.Phase != api.MoveIn || !open || v.Device == m.To {
			continue
		}
		if e := w.route(m.Stream, m.To); e != api.OK {
			return e
		}
		w.noteNow(api.FactMove, m.Stream, m.To)
	}
	return api.OK
}

// wanted returns the gain that a stream wants.
func (w *state) wanted(k api.Kept, d api.Decision) int {
	m, moves := w.moveOf(k.ID)
	_, heard := plug.Wanted(m)
	if k.Muted || moves && !heard {
		return 0
	}
	return gain.Mul(gain.Volume(k.Volume), d.Gain)
}

// shape lets the gain of a stream follow what it wants.
func (w *state) shape(id, wanted int) api.Errno {
	at := slices.IndexFunc(w.Faders, func(f api.Fader) bool { return f.ID == id })
	if at < 0 {
		return api.ErrMissing
	}
	after, ramp, e := duck.Step(w.Faders[at].Envelope, w.Setup.Slope, wanted, w.Setup.Period)
	if e != api.OK {
		return e
	}
	w.Faders[at].Envelope = after
	return w.runs(engine.Shape(w.Engine, id, ramp))
}

// late notes which clients have not given what they owe.
func (w *state) late() {
	for _, v := range w.Engine.Voices {
		if v.Stream.Direction != api.Playback || v.Stream.State != api.Running {
			continue
		}
		if owes, _ := stream.Owes(v.Stream, w.Setup.Period); owes != 0 {
			w.noteNow(api.FactLate, v.ID, 0)
		}
	}
}

// transfer returns what a device did in a quantum.
func (w *state) transfer(p api.Played) api.Transfer {
	frames := sample.Frames(p.Block)
	if p.Direction == api.Playback {
		return api.Transfer{Pull: frames, Push: w.Setup.Period}
	}
	return api.Transfer{Pull: w.Setup.Period, Push: frames}
}

// observe lets the watches of all devices see what they did.
func (w *state) observe() {
	for _, p := range w.result.Played {
		at := slices.IndexFunc(w.Watches, func(x api.Watch) bool { return x.Device == p.Device })
		d, found := hosted(w.Service, p.Device)
		if at < 0 || !found {
			continue
		}
		w.Watches[at] = analyser.Observe(w.Watches[at], d, w.transfer(p))
		if w.Watches[at].Broken {
			w.note(api.Fact{Kind: api.FactDrift, At: w.result.At, Device: p.Device})
		}
	}
}

// hear notes which clients have not read what there was, and measures the latencies of the others.
func (w *state) hear() {
	for i, h := range w.result.Heard {
		v, open := voiceOf(w.Service, h.Stream)
		if v.Stream.Direction == api.Capture && h.Missing != 0 {
			w.note(api.Fact{Kind: api.FactUnread, At: w.result.At, Stream: h.Stream})
		}
		if !open || v.Stream.Direction != api.Playback || h.State != api.Running || h.Device == 0 {
			continue
		}
		h.Latency = Measured(w.Service, h.Stream)
		h.Granted = w.Session.Streams[kept(w.Service, h.Stream)].Latency
		w.result.Heard[i] = h
		r, e := recorder.Measure(w.Recorder, h.Latency)
		try(&w.Recorder, r, e)
	}
}

// advance lets all moves go on.
func (w *state) advance() {
	for i := range w.Moves {
		w.Moves[i] = plug.Advance(w.Moves[i], w.Setup.Fade)
	}
	w.Moves = slices.DeleteFunc(w.Moves, func(m api.Move) bool { return m.Phase == api.MoveDone })
}

// settle hosts the devices that count from now on.
func (w *state) settle() {
	for _, id := range plug.Ready(w.Plugs, w.Engine.Now) {
		if _, found := hosted(w.Service, id); !found {
			w.host(id) // without room for it, it is tried again after the next quantum
		}
	}
}

// prepare is what happens before the engine works.
func (w *state) prepare() api.Errno {
	decisions := policy.Decide(w.Rules, w.Session.Memory, Wants(w.Service), Sinks(w.Service))
	for i, k := range w.Session.Streams {
		w.begin(k, decisions[i].Device)
	}
	if e := w.arrive(); e != api.OK {
		return e
	}
	for i, k := range w.Session.Streams {
		if e := w.shape(k.ID, w.wanted(k, decisions[i])); e != api.OK {
			return e
		}
	}
	w.late()
	return api.OK
}

func (w *state) quantum(recorded []api.Captured) api.Errno {
	if e := w.prepare(); e != api.OK {
		return e
	}
	r, after, e := engine.Quantum(w.Engine, recorded)
	if w.runs(after, e) != api.OK {
		return e
	}
	w.result = r
	w.observe()
	for _, g := range r.Glitches {
		noted, e := recorder.Note(w.Recorder, g)
		try(&w.Recorder, noted, e)
	}
	w.hear()
	w.advance()
	w.settle()
	return api.OK
}
