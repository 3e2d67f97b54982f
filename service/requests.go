package service

import (
	"slices"

	"soundservice/admission"
	"soundservice/api"
	"soundservice/client"
	"soundservice/engine"
	"soundservice/journal"
	"soundservice/policy"
	"soundservice/protocol"
	"soundservice/rules"
	"soundservice/sample"
	"soundservice/session"
	"soundservice/words"
)

const (
	sampleBytes = 2    // of the samples in requests and answers
	maxList     = 1500 // bytes of a list of streams
)

// rewritten returns the journal of all records of a session.
func rewritten(s api.Session) []byte {
	var b []byte
	for _, r := range session.Records(s) {
		record, _ := session.Encode(r)
		b, _ = journal.Append(b, record)
	}
	return b
}

// record lets a record change the session and puts it into the journal.
func (w *state) record(r api.Record) api.Errno {
	after, e := session.Apply(w.Session, r)
	if e != api.OK {
		return e
	}
	w.Session = after
	b, e := session.Encode(r)
	if e == api.OK {
		b, e = journal.Append(w.Journal, b)
	}
	if e != api.OK {
		b = rewritten(w.Session)
	}
	w.Journal = b
	return api.OK
}

// note puts a fact at the end of the facts.
func (w *state) note(f api.Fact) {
	w.Facts = append(w.Facts, f)
	if len(w.Facts) > api.MaxFacts {
		w.Facts = slices.Delete(w.Facts, 0, 1)
	}
}

// noteNow notes a fact of this quantum.
func (w *state) noteNow(kind, stream int, device uint64) {
	w.note(api.Fact{Kind: kind, At: w.Engine.Now, Stream: stream, Device: device})
}

func handlers() map[int]func(*state, api.Request) api.Errno {
	return map[int]func(*state, api.Request) api.Errno{
		api.ReqOpen:   (*state).open,
		api.ReqClose:  (*state).leave,
		api.ReqStart:  (*state).start,
		api.ReqPause:  (*state).pause,
		api.ReqDrain:  (*state).drain,
		api.ReqVolume: (*state).volume,
		api.ReqMute:   (*state).mute,
		api.ReqWrite:  (*state).write,
		api.ReqRead:   (*state).read,
		api.ReqMove:   (*state).move,
		api.ReqRules:  (*state).setRules,
		api.ReqList:   (*state).list,
	}
}

func (w *state) request(r api.Request) api.Errno {
	if !protocol.Valid(r) {
		return api.ErrInvalid
	}
	if r.Kind != api.ReqOpen && r.Kind != api.ReqRules && r.Kind != api.ReqList && kept(w.Service, r.ID) < 0 {
		return api.ErrMissing
	}
	return handlers()[r.Kind](w, r)
}

// insert puts an element into a list that ascends by a key.
func insert[T any](l []T, x T, before func(T) bool) []T {
	at := 0
	for at < len(l) && before(l[at]) {
		at++
	}
	return slices.Insert(l, at, x)
}

// fade gives a stream a fader with the gain 0.
func (w *state) fade(id int) {
	w.Faders = insert(w.Faders, api.Fader{ID: id}, func(f api.Fader) bool { return f.ID < id })
}

// voice opens the voice of a stream.
func (w *state) voice(id, direction, channels, rate int) api.Errno {
	capacity, start := Sizes(w.Setup, direction, rate)
	return w.runs(engine.Open(w.Engine, id, direction, Positions(channels), rate, capacity, start))
}

func (w *state) open(r api.Request) api.Errno {
	if kept(w.Service, r.ID) >= 0 {
		return api.ErrExists
	}
	if len(w.Session.Streams) >= api.MaxStreams {
		return api.ErrLimit
	}
	wants := append(Wants(w.Service), api.Want{ID: r.ID, Role: r.Role, Direction: r.Direction})
	decisions := policy.Decide(w.Rules, w.Session.Memory, wants, Sinks(w.Service))
	goal := decisions[len(decisions)-1].Device
	if goal == 0 {
		return api.ErrNone
	}
	if e := w.voice(r.ID, r.Direction, r.Channels, r.Rate); e != api.OK {
		return e
	}
	if e := w.record(api.Record{Kind: api.RecOpen, ID: r.ID, Role: r.Role, Direction: r.Direction, Channels: r.Channels, Rate: r.Rate, Latency: r.Latency}); e != api.OK {
		return e
	}
	seat := api.Seat{ID: r.ID, Device: goal, Channels: r.Channels, Latency: r.Latency}
	book, _, e := admission.Admit(w.Book, seat, Needed(w.Service, r.ID, goal))
	if e != api.OK {
		return e
	}
	w.Book = book
	w.fade(r.ID)
	return w.route(r.ID, goal)
}

func (w *state) route(id int, device uint64) api.Errno {
	return w.runs(engine.Route(w.Engine, id, device))
}

// unseat takes the seat of a stream away, if it has one.
func (w *state) unseat(id int) api.Errno {
	if !slices.ContainsFunc(w.Book.Seats, func(s api.Seat) bool { return s.ID == id }) {
		return api.OK
	}
	book, e := admission.Leave(w.Book, id)
	return try(&w.Book, book, e)
}

// forget closes a stream but for its voice.
func (w *state) forget(id int) api.Errno {
	if e := w.unseat(id); e != api.OK {
		return e
	}
	w.Faders = slices.DeleteFunc(w.Faders, func(f api.Fader) bool { return f.ID == id })
	w.Moves = slices.DeleteFunc(w.Moves, func(m api.Move) bool { return m.Stream == id })
	return w.record(api.Record{Kind: api.RecClose, ID: id})
}

func (w *state) leave(r api.Request) api.Errno {
	if e := w.runs(engine.Close(w.Engine, r.ID)); e != api.OK {
		return e
	}
	return w.forget(r.ID)
}

// do carries out a command for a stream.
func (w *state) do(id, command int) api.Errno {
	return w.runs(engine.Do(w.Engine, id, command))
}

func (w *state) start(r api.Request) api.Errno {
	if v, _ := voiceOf(w.Service, r.ID); v.Stream.State == api.Paused {
		return w.do(r.ID, api.CmdResume)
	}
	return w.do(r.ID, api.CmdStart)
}

func (w *state) pause(r api.Request) api.Errno { return w.do(r.ID, api.CmdPause) }

func (w *state) drain(r api.Request) api.Errno { return w.do(r.ID, api.CmdDrain) }

func (w *state) volume(r api.Request) api.Errno {
	return w.record(api.Record{Kind: api.RecVolume, ID: r.ID, N: r.N})
}

func (w *state) mute(r api.Request) api.Errno {
	return w.record(api.Record{Kind: api.RecMute, ID: r.ID, N: r.N})
}

// channels returns the channels of an open stream.
func (w *state) channels(id int) int { return w.Session.Streams[kept(w.Service, id)].Channels }

func (w *state) write(r api.Request) api.Errno {
	channels := w.channels(r.ID)
	size := sampleBytes * channels
	data, e := sample.Decode(api.S16LE, r.Data[:client.Whole(len(r.Data), size)*size])
	if e != api.OK {
		return e
	}
	return w.runs(engine.Write(w.Engine, r.ID, api.Block{Channels: channels, Data: data}))
}

func (w *state) read(r api.Request) api.Errno {
	n := min(r.N, client.Whole(api.MaxData, sampleBytes*w.channels(r.ID)))
	b, e, err := engine.Read(w.Engine, r.ID, n)
	if w.runs(e, err) != api.OK {
		return err
	}
	data, err := sample.Encode(api.S16LE, b.Data)
	return try(&w.answer.Data, data, err)
}

func (w *state) move(r api.Request) api.Errno {
	k := w.Session.Streams[kept(w.Service, r.ID)]
	var set []uint64
	for _, s := range Sinks(w.Service) {
		if s.Direction == k.Direction {
			set = append(set, s.ID)
		}
	}
	if r.Device != 0 && !slices.Contains(set, r.Device) {
		return api.ErrMissing
	}
	e := w.record(api.Record{Kind: api.RecPin, ID: r.ID, Device: r.Device})
	if e != api.OK || r.Device == 0 {
		return e
	}
	return w.record(api.Record{Kind: api.RecChoose, Role: k.Role, Set: set, Device: r.Device})
}

func (w *state) setRules(r api.Request) api.Errno {
	l, _, e := rules.Parse(r.Text)
	if try(&w.Rules, l, e) != api.OK {
		return e
	}
	return w.record(api.Record{Kind: api.RecRules, Text: r.Text})
}

func (w *state) list(api.Request) api.Errno {
	text := ""
	for _, k := range w.Session.Streams {
		v, _ := voiceOf(w.Service, k.ID)
		line := words.Format(k.ID) + " " + k.Role + " " + words.Format(v.Stream.State) + " " + words.Format(int(v.Device)) + "\n"
		if len(text)+len(line) > maxList {
			break
		}
		text += line
	}
	w.answer.Text = text
	return api.OK
}
