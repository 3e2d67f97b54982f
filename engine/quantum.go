package engine

import (
	"slices"

	"soundservice/api"
	"soundservice/device"
	"soundservice/fresh"
	"soundservice/gain"
	"soundservice/matrix"
	"soundservice/mixture"
	"soundservice/stream"
)

// work is a quantum at work; it keeps the first error.
type work struct {
	api.Engine
	api.Result
	recorded map[uint64]api.Block // by devices
	taken    map[int]api.Block    // by voices
	missing  map[int]int          // what voices for Playback missed
	noRoom   map[int]int          // what found no room in voices for Capture
	err      api.Errno
}

// recordings returns the recorded blocks of all outlets for Capture, if they are exactly these, in order.
func recordings(e api.Engine, l []api.Captured) (map[uint64]api.Block, bool) {
	recorded := map[uint64]api.Block{}
	for _, o := range e.Outlets {
		if o.Device.Descriptor.Direction != api.Capture {
			continue
		}
		at := len(recorded)
		if at == len(l) || l[at].Device != idOf(o) {
			return nil, false
		}
		recorded[idOf(o)] = l[at].Block
	}
	return recorded, len(recorded) == len(l)
}

// note adds a glitch, if its number of frames is not 0.
func (w *work) note(kind, stream int, device uint64, frames int) {
	if frames != 0 {
		w.Glitches = append(w.Glitches, api.Glitch{Kind: kind, At: w.Now, Quanta: 1, Stream: stream, Device: device, Frames: frames})
	}
}

func (w *work) fail(err api.Errno) bool {
	if w.err == api.OK {
		w.err = err
	}
	return w.err != api.OK
}

func (w *work) takeAll() {
	for i := range w.Voices {
		v := &w.Voices[i]
		if v.Stream.Direction != api.Playback {
			continue
		}
		b, missing, s, err := stream.Take(v.Stream, w.Period)
		if w.fail(err) {
			return
		}
		v.Stream = s
		w.taken[v.ID], w.missing[v.ID] = b, missing
		w.note(api.GlitchShort, v.ID, 0, missing)
	}
}

// played returns what is known of an outlet before the quantum.
func played(o api.Outlet) api.Played {
	return api.Played{Device: idOf(o), Direction: o.Device.Descriptor.Direction, Map: slices.Clone(o.Device.Choice.Format.Map), Limit: o.Limit}
}

// play mixes the voices of an outlet for Playback and lets its device play.
func (w *work) play(o *api.Outlet) {
	p := played(*o)
	var inputs []api.Input
	for _, v := range w.Voices {
		if v.Device == p.Device {
			inputs = append(inputs, api.Input{Block: w.taken[v.ID], Matrix: v.Matrix, Ramp: v.Ramp})
		}
	}
	mixed, limit, err := mixture.Mix(len(p.Map), w.Period, inputs, o.Limit)
	if w.fail(err) {
		return
	}
	from, to := span(w.Engine)
	block, lost, missing, d, err := device.Play(o.Device, mixed, from, to)
	if w.fail(err) {
		return
	}
	o.Device, o.Limit = d, limit
	p.Mixed, p.Block, p.Lost, p.Missing = mixed, block, lost, missing
	w.finish(p)
}

// record lets the device of an outlet for Capture record and gives its voices what it recorded.
func (w *work) record(o *api.Outlet) {
	p := played(*o)
	from, to := span(w.Engine)
	heard := w.recorded[p.Device]
	block, lost, missing, d, err := device.Record(o.Device, heard, w.Period, from, to)
	if w.fail(err) {
		return
	}
	o.Device = d
	p.Mixed, p.Block, p.Lost, p.Missing = block, fresh.Block(heard), lost, missing
	w.finish(p)
	for i := range w.Voices {
		if v := &w.Voices[i]; v.Device == p.Device {
			w.give(v, block)
		}
	}
}

// give gives a voice for Capture a recorded block.
func (w *work) give(v *api.Voice, b api.Block) {
	own, err := matrix.Apply(v.Matrix, b)
	if w.fail(err) {
		return
	}
	own, _, err = gain.Run(v.Ramp, own)
	if w.fail(err) {
		return
	}
	noRoom, s, err := stream.Give(v.Stream, own)
	if w.fail(err) {
		return
	}
	v.Stream = s
	w.noRoom[v.ID] = noRoom
	w.note(api.GlitchFull, v.ID, 0, noRoom)
}

// finish adds what an outlet did, and its glitches.
func (w *work) finish(p api.Played) {
	w.Played = append(w.Played, p)
	w.note(api.GlitchOver, 0, p.Device, p.Lost)
	w.note(api.GlitchDry, 0, p.Device, p.Missing)
}

func (w *work) outlets() {
	for i := range w.Outlets {
		if w.err != api.OK {
			return
		}
		if o := &w.Outlets[i]; o.Device.Descriptor.Direction == api.Playback {
			w.play(o)
		} else {
			w.record(o)
		}
	}
}

// hear says what all voices did; before are the voices before the quantum.
func (w *work) hear(before []api.Voice) {
	for _, v := range before {
		w.Heard = append(w.Heard, api.Heard{Stream: v.ID, State: v.Stream.State, Device: v.Device, Ramp: v.Ramp, Missing: w.missing[v.ID] + w.noRoom[v.ID]})
	}
}

// ramps lets the ramps of all voices go on.
func (w *work) ramps() {
	for i := range w.Voices {
		v := &w.Voices[i]
		after, err := mixture.After(api.Input{Ramp: v.Ramp}, w.Period)
		if w.fail(err) {
			return
		}
		v.Ramp = after
	}
}

// Quantum returns what happens in this quantum, and the engine after it.
func Quantum(e api.Engine, l []api.Captured) (api.Result, api.Engine, api.Errno) {
	if !Valid(e) {
		return api.Result{}, api.Engine{}, api.ErrInvalid
	}
	if e.Now == quanta(e.Period)-1 {
		return api.Result{}, api.Engine{}, api.ErrRange
	}
	recorded, ok := recordings(e, l)
	if !ok {
		return api.Result{}, api.Engine{}, api.ErrMismatch
	}
	w := &work{Engine: fresh.Engine(e), Result: api.Result{At: e.Now}, recorded: recorded, taken: map[int]api.Block{}, missing: map[int]int{}, noRoom: map[int]int{}}
	w.takeAll()
	w.outlets()
	w.hear(e.Voices)
	w.ramps()
	if w.err != api.OK {
		return api.Result{}, api.Engine{}, w.err
	}
	w.Now++
	return w.Result, w.Engine, api.OK
}
