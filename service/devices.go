package service

import (
	"slices"

	"soundservice/admission"
	"soundservice/api"
	"soundservice/clock"
	"soundservice/descriptor"
	"soundservice/device"
	"soundservice/engine"
	"soundservice/fresh"
	"soundservice/journal"
	"soundservice/limiter"
	"soundservice/offer"
	"soundservice/plug"
	"soundservice/rules"
	"soundservice/session"
)

// known returns the place of a known device, -1 if it is not known.
func (w *state) known(id uint64) int {
	return slices.IndexFunc(w.Known, func(k api.Known) bool { return k.Descriptor.ID == id })
}

// sight adds a sighting of a device now.
func (w *state) sight(id uint64) api.Errno {
	p, e := plug.Plug(w.Plugs, id, w.Engine.Now)
	return try(&w.Plugs, p, e)
}

func (w *state) plug(b []byte, c api.Clock) api.Errno {
	d, e := descriptor.Decode(b)
	switch {
	case e != api.OK:
		return e
	case d.ID == 0 || d.ID > maxID:
		return api.ErrRange
	case !clock.Valid(c):
		return api.ErrInvalid
	case w.known(d.ID) >= 0:
		return api.ErrExists
	}
	want := api.Choice{Format: api.Format{Kind: api.S24LE, Rate: w.Setup.Rate, Map: []int{api.FL, api.FR}}, Size: w.Setup.Period}
	choice, found := offer.Best(d.Boxes, want)
	if !found {
		return api.ErrNone
	}
	if _, e := device.Open(d, choice, c, w.Setup.Rate, w.Setup.Period); e != api.OK {
		return e
	}
	if e := w.sight(d.ID); e != api.OK {
		return e
	}
	k := api.Known{Descriptor: d, Choice: choice, Clock: fresh.Clock(c)}
	w.Known = insert(w.Known, k, func(other api.Known) bool { return other.Descriptor.ID < d.ID })
	w.noteNow(api.FactPlug, 0, d.ID)
	return api.OK
}

func (w *state) unplug(id uint64) api.Errno {
	at := w.known(id)
	if at < 0 {
		return api.ErrMissing
	}
	w.Known = slices.Delete(w.Known, at, at+1)
	p, e := plug.Unplug(w.Plugs, id)
	if try(&w.Plugs, p, e) != api.OK {
		return e
	}
	w.noteNow(api.FactUnplug, 0, id)
	if _, found := hosted(w.Service, id); !found {
		return api.OK
	}
	return w.drop(id)
}

// drop takes a hosted device away from the book and the engine, and all that leads to it.
func (w *state) drop(id uint64) api.Errno {
	for _, s := range slices.Clone(w.Book.Seats) {
		if s.Device != id {
			continue
		}
		if e := w.unseat(s.ID); e != api.OK {
			return e
		}
	}
	for _, m := range w.Moves {
		if v, open := voiceOf(w.Service, m.Stream); m.To == id && open && v.Device != id {
			if e := w.route(m.Stream, 0); e != api.OK {
				return e
			}
		}
	}
	book, e := admission.Drop(w.Book, id)
	if try(&w.Book, book, e) != api.OK {
		return e
	}
	if e := w.runs(engine.Drop(w.Engine, id)); e != api.OK {
		return e
	}
	w.Watches = slices.DeleteFunc(w.Watches, func(x api.Watch) bool { return x.Device == id })
	w.Moves = slices.DeleteFunc(w.Moves, func(m api.Move) bool { return m.From == id || m.To == id })
	return api.OK
}

func (w *state) die(id int) api.Errno {
	if kept(w.Service, id) < 0 {
		return api.ErrMissing
	}
	w.noteNow(api.FactDead, id, 0)
	return w.leave(api.Request{ID: id})
}

// host hosts a known device, if there is room for it.
func (w *state) host(id uint64) api.Errno {
	at := w.known(id)
	if at < 0 {
		return api.ErrMissing
	}
	k := w.Known[at]
	book, e := admission.Host(w.Book, api.Hosted{ID: id, Channels: len(k.Choice.Format.Map)})
	if e != api.OK {
		return e
	}
	d, e := device.Open(k.Descriptor, k.Choice, k.Clock, w.Setup.Rate, w.Setup.Period)
	if e != api.OK {
		return e
	}
	l, e := limiter.New(w.Setup.Threshold, w.Setup.Release)
	if e != api.OK {
		return e
	}
	if e := w.runs(engine.Host(w.Engine, d, l)); e != api.OK {
		return e
	}
	w.Book = book
	w.Watches = insert(w.Watches, api.Watch{Device: id}, func(x api.Watch) bool { return x.Device < id })
	return api.OK
}

func (w *state) restart() api.Errno {
	before := w.Service
	begun, e := New(before.Setup)
	if e != api.OK {
		return e
	}
	begun.Engine.Now, begun.Recorder, begun.Facts, begun.Known = before.Engine.Now, before.Recorder, before.Facts, before.Known
	w.Service, w.own = begun, true
	for _, k := range w.Known {
		if e := w.sight(k.Descriptor.ID); e != api.OK {
			return e
		}
	}
	w.Session, _ = session.Restore(before.Journal)
	w.Journal = journal.Repair(before.Journal)
	w.Rules, _, _ = rules.Parse(w.Session.Text)
	for _, k := range slices.Clone(w.Session.Streams) {
		w.fade(k.ID)
		if w.voice(k.ID, k.Direction, k.Channels, k.Rate) != api.OK {
			if e := w.forget(k.ID); e != api.OK {
				return e
			}
		}
	}
	w.noteNow(api.FactRestart, 0, 0)
	return api.OK
}
