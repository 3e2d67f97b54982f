package glitch

import (
	"slices"
	"testing"

	"soundservice/api"
)

const maxInt, minInt = 1<<63 - 1, -1 << 63

func short(at int64, quanta, frames int) api.Glitch {
	return api.Glitch{Kind: api.GlitchShort, At: at, Quanta: quanta, Stream: 3, Frames: frames}
}

func dry(at int64, quanta, frames int) api.Glitch {
	return api.Glitch{Kind: api.GlitchDry, At: at, Quanta: quanta, Device: 3, Frames: frames}
}

func changed(g api.Glitch, f func(*api.Glitch)) api.Glitch {
	f(&g)
	return g
}

func invalid() []api.Glitch {
	g, d := short(5, 1, 10), dry(5, 1, 10)
	return []api.Glitch{
		{}, changed(g, func(g *api.Glitch) { g.Kind = 0 }), changed(g, func(g *api.Glitch) { g.Kind = 5 }), changed(g, func(g *api.Glitch) { g.At = -1 }), changed(g, func(g *api.Glitch) { g.At = api.MaxTime + 1 }),
		changed(g, func(g *api.Glitch) { g.Quanta = 0 }), changed(g, func(g *api.Glitch) { g.Quanta = api.MaxQuanta + 1 }), changed(g, func(g *api.Glitch) { g.Frames = 0 }), changed(g, func(g *api.Glitch) { g.Frames = api.MaxTime + 1 }),
		changed(g, func(g *api.Glitch) { g.Stream = 0 }), changed(g, func(g *api.Glitch) { g.Stream = -1 }), changed(g, func(g *api.Glitch) { g.Device = 1 }), changed(g, func(g *api.Glitch) { g.Kind = api.GlitchOver }),
		changed(d, func(g *api.Glitch) { g.Device = 0 }), changed(d, func(g *api.Glitch) { g.Stream = 1 }), changed(d, func(g *api.Glitch) { g.Kind = api.GlitchFull }),
	}
}

// P37.1
func TestValid(t *testing.T) {
	for i, g := range []api.Glitch{short(0, 1, 1), short(api.MaxTime, api.MaxQuanta, api.MaxTime), dry(7, 2, 3), {Kind: api.GlitchShort, Stream: 1, Quanta: 1, Frames: 1}, {Kind: api.GlitchDry, Device: 1, Quanta: 1, Frames: 1}, {Kind: api.GlitchFull, Stream: maxInt, Quanta: 1, Frames: 1}, {Kind: api.GlitchOver, Device: 1<<64 - 1, Quanta: 1, Frames: 1}} {
		if !Valid(g) {
			t.Error(i)
		}
	}
	for i, g := range invalid() {
		if Valid(g) {
			t.Error(i)
		}
	}
}

// P37.1
func TestLessAndSort(t *testing.T) {
	ordered := []api.Glitch{ // Less looks at any glitches
		{At: minInt}, {}, {Frames: 1}, {Quanta: 1}, {Device: 1}, {Device: 1<<64 - 1}, {Stream: 1}, {Kind: 1, Stream: -1}, {Kind: 1}, {Kind: 2, Stream: minInt}, {At: 1, Kind: -5}, {At: maxInt},
	}
	for i, a := range ordered {
		for k, b := range ordered {
			if Less(a, b) != (i < k) {
				t.Error(a, b)
			}
		}
	}
	l := append(invalid(), dry(5, 1, 1), short(6, 1, 1), short(5, 2, 1), short(5, 1, 7), short(5, 1, 7))
	before := slices.Clone(l)
	if got := Sort(l); !slices.Equal(got, []api.Glitch{short(5, 1, 7), short(5, 1, 7), short(5, 2, 1), dry(5, 1, 1), short(6, 1, 1)}) || !slices.Equal(l, before) {
		t.Error(got)
	}
	if len(Sort(nil)) != 0 {
		t.Error("nothing")
	}
}

// P37.2
func TestJoin(t *testing.T) {
	if g, ok := Join(short(5, 2, 10), short(7, 3, 20)); !ok || g != short(5, 5, 30) {
		t.Error(g, ok)
	}
	if g, ok := Join(short(5, 1, 1), short(6, api.MaxQuanta-1, api.MaxTime-1)); !ok || g != short(5, api.MaxQuanta, api.MaxTime) {
		t.Error(g, ok)
	}
	other := changed(short(6, 1, 1), func(g *api.Glitch) { g.Stream = 4 })
	full := changed(short(6, 1, 1), func(g *api.Glitch) { g.Kind = api.GlitchFull })
	far := changed(dry(6, 1, 1), func(g *api.Glitch) { g.Device = 4 })
	for i, c := range [][2]api.Glitch{
		{short(5, 1, 1), short(5, 1, 1)}, {short(5, 1, 1), short(7, 1, 1)}, {short(6, 1, 1), short(5, 1, 1)}, {short(5, 1, 1), other}, {short(5, 1, 1), full}, {dry(5, 1, 1), far}, {short(5, 1, 1), dry(6, 1, 1)},
		{short(5, 1, 1), short(6, api.MaxQuanta, 1)}, {short(5, 1, 1), short(6, 1, api.MaxTime)}, {short(5, 0, 1), short(5, 1, 1)}, {short(5, 1, 1), short(6, 0, 1)}, {{}, {}},
	} {
		if g, ok := Join(c[0], c[1]); ok || g != (api.Glitch{}) {
			t.Error(i, g)
		}
	}
}

// P37.3
func TestMerge(t *testing.T) {
	for i, c := range []struct{ in, out []api.Glitch }{
		{nil, nil}, {invalid(), nil},
		{[]api.Glitch{short(6, 1, 20), short(5, 1, 10)}, []api.Glitch{short(5, 2, 30)}},
		{[]api.Glitch{short(5, 1, 1), dry(5, 1, 1), short(6, 1, 1), dry(6, 1, 1), short(8, 1, 1)}, []api.Glitch{short(5, 2, 2), dry(5, 2, 2), short(8, 1, 1)}},
		{[]api.Glitch{short(5, 1, 1), short(5, 1, 2), short(6, 1, 4)}, []api.Glitch{short(5, 1, 1), short(5, 2, 6)}},
		{[]api.Glitch{short(5, 1, 1), short(5, 2, 2), short(6, 1, 4)}, []api.Glitch{short(5, 1, 1), short(5, 2, 2), short(6, 1, 4)}},
		{[]api.Glitch{short(0, api.MaxQuanta, 1), short(api.MaxQuanta, 1, 1), short(api.MaxQuanta+1, 1, 1)}, []api.Glitch{short(0, api.MaxQuanta, 1), short(api.MaxQuanta, 2, 2)}},
	} {
		got := Merge(c.in)
		if !slices.Equal(got, c.out) || !slices.Equal(Merge(got), got) {
			t.Error(i, got)
		}
		turned := slices.Clone(c.in)
		slices.Reverse(turned)
		if !slices.Equal(Merge(turned), got) {
			t.Error(i, "the order of the list")
		}
	}
}
