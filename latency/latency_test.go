package latency

import (
	"testing"

	"soundservice/api"
)

const maxInt, minInt = 1<<63 - 1, -1 << 63

// P26.1
func TestFrames(t *testing.T) {
	for _, c := range []struct{ n, from, to, want int }{
		{480, 48000, 96000, 960}, {1, 44100, 48000, 2}, {0, 44100, 48000, 0}, {147, 44100, 48000, 160}, {148, 44100, 48000, 162}, {1, 768000, 1000, 1}, {1, 1000, 1001, 2}, {1000, 1000, 1001, 1001}, {api.MaxTime, 1000, 768000, 768 * api.MaxTime}, {api.MaxTime, 768000, 768000, api.MaxTime},
		{-1, 48000, 48000, 0}, {api.MaxTime + 1, 48000, 48000, 0}, {5, 999, 48000, 0}, {5, 768001, 48000, 0}, {5, 48000, 999, 0}, {5, 48000, 768001, 0}, {maxInt, maxInt, maxInt, 0}, {minInt, minInt, minInt, 0},
	} {
		if n := Frames(c.n, c.from, c.to); n != c.want {
			t.Error(c, n)
		}
	}
}

var journey = api.Journey{Master: 48000, Rate: 44100, DeviceRate: 96000, Ring: 441, Period: 64, Target: 333, Latency: 97}

// P26.2
func TestOf(t *testing.T) {
	if l, e := Of(journey); e != api.OK || l != (api.Latency{Ring: 480, Convert: 3, Quantum: 64, Bridge: 333, Device: 49}) || Total(l) != 929 {
		t.Error(l, e)
	}
	for i, change := range []func(*api.Journey){
		func(j *api.Journey) { j.Master = 999 }, func(j *api.Journey) { j.Master = 768001 }, func(j *api.Journey) { j.Rate = 999 }, func(j *api.Journey) { j.Rate = 768001 },
		func(j *api.Journey) { j.DeviceRate = 999 }, func(j *api.Journey) { j.DeviceRate = 768001 }, func(j *api.Journey) { j.Period = 15 }, func(j *api.Journey) { j.Period = 8193 },
		func(j *api.Journey) { j.Ring = -1 }, func(j *api.Journey) { j.Ring = api.MaxTime + 1 }, func(j *api.Journey) { j.Target = -1 }, func(j *api.Journey) { j.Target = api.MaxTime + 1 },
		func(j *api.Journey) { j.Latency = -1 }, func(j *api.Journey) { j.Latency = api.MaxTime + 1 },
	} {
		j := journey
		change(&j)
		if l, e := Of(j); e != api.ErrRange || l != (api.Latency{}) {
			t.Error(i, l, e)
		}
	}
	least := api.Journey{Master: 1000, Rate: 1000, DeviceRate: 768000, Period: 16}
	if l, e := Of(least); e != api.OK || l != (api.Latency{Convert: 2, Quantum: 16}) {
		t.Error(l, e)
	}
	edge := api.Journey{Master: 768000, Rate: 1000, DeviceRate: 1000, Ring: api.MaxTime, Period: 8192, Target: api.MaxTime, Latency: api.MaxTime}
	if l, e := Of(edge); e != api.OK || l.Ring != 768*api.MaxTime || l.Device != 768*api.MaxTime || l.Bridge != api.MaxTime {
		t.Error(l, e)
	}
}

// P26.2
func TestTotal(t *testing.T) {
	all := api.Latency{Ring: api.MaxTime, Convert: api.MaxTime, Quantum: api.MaxTime, Bridge: api.MaxTime, Device: api.MaxTime}
	if Total(all) != 5*api.MaxTime || Total(api.Latency{}) != 0 {
		t.Error("Total")
	}
	for _, n := range []int{-1, minInt, maxInt, api.MaxTime + 1} {
		for _, l := range []api.Latency{{Ring: n, Convert: 1}, {Convert: n, Ring: 1}, {Quantum: n, Ring: 1}, {Bridge: n, Ring: 1}, {Device: n, Ring: 1}} {
			if Total(l) != 0 {
				t.Error(l)
			}
		}
	}
}

// P26.3
func TestLongest(t *testing.T) {
	g := api.Graph{Links: []api.Link{{From: 1, To: 2}, {From: 1, To: 4}, {From: 2, To: 4}, {From: 3, To: 4}, {From: 4, To: 5}}}
	for id := 1; id <= 5; id++ {
		g.Nodes = append(g.Nodes, api.Node{ID: id, Kind: api.NodeMixer, Ins: 1, Outs: 1})
	}
	g.Nodes[0] = api.Node{ID: 1, Kind: api.NodeSource, Outs: 1}
	weights := []int{1, 10, 100, 1000, 0}
	for _, c := range []struct {
		from, to, want int
		e              api.Errno
	}{
		{1, 5, 1011, api.OK}, {1, 4, 1011, api.OK}, {3, 5, 1100, api.OK}, {2, 2, 10, api.OK}, {5, 5, 0, api.OK}, {4, 5, 1000, api.OK},
		{5, 1, 0, api.ErrNone}, {1, 3, 0, api.ErrNone}, {2, 1, 0, api.ErrNone}, {0, 1, 0, api.ErrMissing}, {1, 6, 0, api.ErrMissing}, {6, 6, 0, api.ErrMissing}, {-1, 0, 0, api.ErrMissing},
	} {
		if n, e := Longest(g, weights, c.from, c.to); n != c.want || e != c.e {
			t.Error(c, n, e)
		}
	}
	broken := g
	broken.Links = append(broken.Links[:4:4], api.Link{From: 9, To: 5})
	for i, c := range []struct {
		g       api.Graph
		weights []int
	}{{broken, weights}, {g, weights[:4]}, {g, append(weights, 1)}, {g, []int{1, 2, -1, 4, 5}}, {g, []int{1, 2, api.MaxCost + 1, 4, 5}}} {
		if n, e := Longest(c.g, c.weights, -1, 1); n != 0 || e != api.ErrInvalid {
			t.Error(i, n, e)
		}
	}
	if n, e := Longest(g, []int{api.MaxCost, api.MaxCost, 0, api.MaxCost, api.MaxCost}, 1, 5); n != 4*api.MaxCost || e != api.OK {
		t.Error(n, e)
	}
}
