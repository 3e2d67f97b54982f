// Package fresh makes copies of the types of package api that share no memory with what they are made of.
package fresh

import (
	"slices"

	"soundservice/api"
)

// List returns a copy of a list, each element of which is copied.
func List[T any](l []T, each func(T) T) []T {
	var out []T
	for _, x := range l {
		out = append(out, each(x))
	}
	return out
}

// Set copies a set of integers.
func Set(s api.IntSet) api.IntSet { return api.IntSet{Spans: slices.Clone(s.Spans)} }

// Box copies a box.
func Box(b api.Box) api.Box {
	b.Rates = Set(b.Rates)
	b.Maps = List(b.Maps, slices.Clone[[]int])
	b.Sizes = Set(b.Sizes)
	return b
}

// Boxes copies a list of boxes.
func Boxes(l []api.Box) []api.Box { return List(l, Box) }

// Format copies a format.
func Format(f api.Format) api.Format {
	f.Map = slices.Clone(f.Map)
	return f
}

// Choice copies a choice.
func Choice(c api.Choice) api.Choice {
	c.Format = Format(c.Format)
	return c
}

// Descriptor copies a descriptor.
func Descriptor(d api.Descriptor) api.Descriptor {
	d.Boxes = Boxes(d.Boxes)
	return d
}

// Clock copies a clock.
func Clock(c api.Clock) api.Clock { return api.Clock{Segments: slices.Clone(c.Segments)} }

// Block copies a block.
func Block(b api.Block) api.Block {
	b.Data = slices.Clone(b.Data)
	return b
}

// Matrix copies a matrix.
func Matrix(m api.Matrix) api.Matrix {
	m.Coef = slices.Clone(m.Coef)
	return m
}

// Resampler copies a resampler.
func Resampler(r api.Resampler) api.Resampler {
	r.Rest = slices.Clone(r.Rest)
	return r
}

// Converter copies a converter.
func Converter(c api.Converter) api.Converter {
	c.From, c.To = Format(c.From), Format(c.To)
	c.Matrix = Matrix(c.Matrix)
	c.Resample = Resampler(c.Resample)
	return c
}

// Ring copies a ring.
func Ring(r api.Ring) api.Ring {
	r.Data = slices.Clone(r.Data)
	return r
}

// Bridge copies a bridge.
func Bridge(b api.Bridge) api.Bridge {
	b.Resample = Resampler(b.Resample)
	return b
}

// Stream copies a stream.
func Stream(s api.Stream) api.Stream {
	s.Resample = Resampler(s.Resample)
	s.Ring = Ring(s.Ring)
	return s
}

// Device copies a device.
func Device(d api.Device) api.Device {
	d.Descriptor = Descriptor(d.Descriptor)
	d.Choice = Choice(d.Choice)
	d.Clock = Clock(d.Clock)
	d.Bridge = Bridge(d.Bridge)
	return d
}

// Graph copies a graph.
func Graph(g api.Graph) api.Graph {
	return api.Graph{Nodes: slices.Clone(g.Nodes), Links: slices.Clone(g.Links)}
}

// Voice copies a voice.
func Voice(v api.Voice) api.Voice {
	v.Map = slices.Clone(v.Map)
	v.Stream = Stream(v.Stream)
	v.Matrix = Matrix(v.Matrix)
	return v
}

// Outlet copies an outlet.
func Outlet(o api.Outlet) api.Outlet {
	o.Device = Device(o.Device)
	return o
}

// Engine copies an engine.
func Engine(e api.Engine) api.Engine {
	e.Outlets = List(e.Outlets, Outlet)
	e.Voices = List(e.Voices, Voice)
	return e
}

// Choose copies a choice that is remembered.
func Choose(c api.Choose) api.Choose {
	c.Set = slices.Clone(c.Set)
	return c
}

// Memory copies the choices that are remembered.
func Memory(m api.Memory) api.Memory { return api.Memory{Choices: List(m.Choices, Choose)} }

// Recorder copies a recorder.
func Recorder(r api.Recorder) api.Recorder {
	r.Last = slices.Clone(r.Last)
	return r
}

// Watch copies a watch.
func Watch(w api.Watch) api.Watch {
	w.Transfers = slices.Clone(w.Transfers)
	return w
}

// Session copies a session.
func Session(s api.Session) api.Session {
	s.Streams = slices.Clone(s.Streams)
	s.Memory = Memory(s.Memory)
	return s
}

// Rule copies a rule.
func Rule(r api.Rule) api.Rule {
	r.Cond = slices.Clone(r.Cond)
	return r
}

// Known copies a device that is plugged.
func Known(k api.Known) api.Known {
	return api.Known{Descriptor: Descriptor(k.Descriptor), Choice: Choice(k.Choice), Clock: Clock(k.Clock)}
}

// Book copies a book.
func Book(b api.Book) api.Book {
	b.Devices, b.Seats = slices.Clone(b.Devices), slices.Clone(b.Seats)
	return b
}

// Service copies a service.
func Service(s api.Service) api.Service {
	return api.Service{
		Setup:    s.Setup,
		Engine:   Engine(s.Engine),
		Book:     Book(s.Book),
		Session:  Session(s.Session),
		Rules:    List(s.Rules, Rule),
		Plugs:    api.Plugs{Settle: s.Plugs.Settle, Seen: slices.Clone(s.Plugs.Seen)},
		Known:    List(s.Known, Known),
		Moves:    slices.Clone(s.Moves),
		Faders:   slices.Clone(s.Faders),
		Recorder: Recorder(s.Recorder),
		Facts:    slices.Clone(s.Facts),
		Watches:  List(s.Watches, Watch),
		Journal:  slices.Clone(s.Journal),
	}
}
