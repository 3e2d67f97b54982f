package analyser

import (
	"slices"
	"testing"

	"soundservice/api"
	"soundservice/device"
)

func late(stream int, at int64) api.Fact {
	return api.Fact{Kind: api.FactLate, At: at, Stream: stream}
}

func glitchOf(kind int, at int64, quanta int) api.Glitch {
	g := api.Glitch{Kind: kind, At: at, Quanta: quanta, Stream: 3, Frames: 1}
	if kind == api.GlitchDry || kind == api.GlitchOver {
		g.Stream, g.Device = 0, 3
	}
	return g
}

// P39.1: all kinds of facts against all kinds of glitches.
func TestRelevant(t *testing.T) {
	yes := map[[2]int]bool{
		{api.FactLate, api.GlitchShort}: true, {api.FactDead, api.GlitchShort}: true, {api.FactUnread, api.GlitchFull}: true, {api.FactDead, api.GlitchFull}: true, {api.FactDrift, api.GlitchDry}: true, {api.FactDrift, api.GlitchOver}: true,
	}
	for kind := -1; kind <= 9; kind++ {
		for g := 1; g <= 4; g++ {
			want := yes[[2]int{kind, g}] || kind == api.FactRestart
			if Relevant(api.Fact{Kind: kind, Stream: 3, Device: 3, At: -5}, glitchOf(g, 5, 1)) != want {
				t.Error(kind, g)
			}
			if Relevant(api.Fact{Kind: kind, Stream: 4, Device: 4}, glitchOf(g, 5, 1)) != (kind == api.FactRestart) {
				t.Error(kind, g)
			}
			broken := glitchOf(g, 5, 0)
			if Relevant(api.Fact{Kind: kind, Stream: 3, Device: 3}, broken) {
				t.Error(kind, g)
			}
		}
	}
}

// P39.2
func TestExplain(t *testing.T) {
	l := []api.Fact{late(3, 5), late(4, 1), late(3, 3), {Kind: api.FactMove, At: 2, Stream: 3}, late(3, 3), {Kind: api.FactRestart, At: 9}, {Kind: api.FactDrift, At: 4, Device: 3}, late(3, -7)}
	short := func(at int64, quanta int) api.Glitch { return glitchOf(api.GlitchShort, at, quanta) }
	for i, c := range []struct {
		horizon int64
		g       api.Glitch
		index   int
	}{
		{1, short(5, 1), 0}, {2, short(5, 1), 2}, {0, short(5, 1), 0}, {0, short(4, 1), -1}, {0, short(4, 2), 0}, {1, short(4, 1), 2}, {api.MaxTime, short(0, 1), 7}, {6, short(0, 1), -1}, {6, short(0, 4), 2}, {0, short(7, 2), -1}, {0, short(7, 3), 5},
		{1, glitchOf(api.GlitchDry, 5, 1), 6}, {0, glitchOf(api.GlitchFull, 8, 2), 5},
		{-1, short(5, 1), -1}, {api.MaxTime + 1, short(5, 1), -1}, {1, short(5, 0), -1},
	} {
		want := api.Cause{Index: c.index, Inside: c.index < 0}
		if got := Explain(l, c.horizon, c.g); got != want {
			t.Error(i, got, want)
		}
	}
	all := All(l, 1, []api.Glitch{short(5, 1), short(0, 1), {}})
	if !slices.Equal(all, []api.Cause{{Index: 0}, {Index: -1, Inside: true}, {Index: -1, Inside: true}}) || Inside(all) != 2 {
		t.Error(all)
	}
	if len(All(l, 1, nil)) != 0 || Inside(nil) != 0 {
		t.Error("nothing")
	}
}

func opened() api.Device {
	span := func(lo, hi int) api.IntSet { return api.IntSet{Spans: []api.Span{{Lo: lo, Hi: hi}}} }
	d := api.Descriptor{ID: 3, Name: "d", Direction: api.Playback, Boxes: []api.Box{{Kinds: 4, Rates: span(48000, 48000), Maps: [][]int{{3}}, Sizes: span(64, 64)}}}
	out, _ := device.Open(d, api.Choice{Format: api.Format{Kind: 2, Rate: 48000, Map: []int{3}}, Size: 64}, api.Clock{Segments: []api.Segment{{Rate: api.Ratio{Num: 1, Den: 1}}}}, 48000, 64)
	return out
}

// P39.3
func TestObserve(t *testing.T) {
	d := opened()
	var w api.Watch
	w.Device = 3
	for i := range 300 {
		before := w
		w = Observe(w, d, api.Transfer{Pull: 64, Push: 64})
		if len(w.Transfers) != min(i+1, 256) || w.Broken || w.Device != 3 || len(before.Transfers) != min(i, 256) {
			t.Fatal(i, len(w.Transfers), w.Broken)
		}
	}
	w.Transfers = append(make([]api.Transfer, 0, 9), w.Transfers[:3]...)
	x := Observe(w, d, api.Transfer{Pull: 63, Push: 64}) // within the jitter
	y := Observe(x, d, api.Transfer{Pull: 60, Push: 64})
	if x.Broken || !y.Broken || len(w.Transfers[:4]) != 4 || w.Transfers[:4][3] != (api.Transfer{}) {
		t.Error(x.Broken, y.Broken)
	}
	y.Transfers = nil
	if z := Observe(y, d, api.Transfer{Pull: 64, Push: 64}); !z.Broken {
		t.Error("it stays broken")
	}
	if z := Observe(api.Watch{}, api.Device{}, api.Transfer{}); !z.Broken {
		t.Error("a device that is not valid keeps nothing")
	}
}
