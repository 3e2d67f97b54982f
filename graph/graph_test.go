package graph

import (
	"reflect"
	"slices"
	"testing"

	"soundservice/api"
)

func node(id, kind, ins, outs int) api.Node {
	return api.Node{ID: id, Kind: kind, Ins: ins, Outs: outs}
}

func link(from, out, to, in int) api.Link { return api.Link{From: from, Out: out, To: to, In: in} }

// example: the sources 1 and 2 lead to the mixer 5, by way of the effect 7 to the split 3, and to the sinks 4 and 6.
func example() api.Graph {
	return api.Graph{
		Nodes: []api.Node{node(1, api.NodeSource, 0, 1), node(2, api.NodeSource, 0, 1), node(3, api.NodeSplit, 1, 2), node(4, api.NodeSink, 1, 0), node(5, api.NodeMixer, 2, 1), node(6, api.NodeSink, 1, 0), node(7, api.NodeEffect, 1, 1)},
		Links: []api.Link{link(1, 0, 5, 0), link(2, 0, 5, 0), link(3, 0, 4, 0), link(3, 1, 6, 0), link(5, 0, 7, 0), link(7, 0, 3, 0)},
	}
}

func changed(f func(*api.Graph)) api.Graph {
	g := example()
	f(&g)
	return g
}

func many(n int) api.Graph {
	var g api.Graph
	for i := range n {
		g.Nodes = append(g.Nodes, node(i+1, api.NodeMixer, 8, 1))
	}
	return g
}

var wrongNodes = []api.Node{
	{}, node(0, api.NodeSource, 0, 1), node(-1, api.NodeSource, 0, 1), node(1<<31, api.NodeSource, 0, 1), node(9, 0, 1, 1), node(9, 6, 1, 1),
	node(9, api.NodeSource, 1, 1), node(9, api.NodeSource, 0, 2), node(9, api.NodeSink, 0, 0), node(9, api.NodeSink, 1, 1), node(9, api.NodeMixer, 0, 1), node(9, api.NodeMixer, 9, 1), node(9, api.NodeMixer, 2, 2),
	node(9, api.NodeEffect, 2, 1), node(9, api.NodeEffect, 1, 0), node(9, api.NodeSplit, 2, 2), node(9, api.NodeSplit, 1, 0), node(9, api.NodeSplit, 1, 9),
}

func invalid() []api.Graph {
	l := []api.Graph{
		many(65),
		changed(func(g *api.Graph) { slices.Reverse(g.Nodes) }),
		changed(func(g *api.Graph) { g.Nodes[1].ID = 1 }),
		changed(func(g *api.Graph) { slices.Reverse(g.Links) }),
		changed(func(g *api.Graph) { g.Links = append(g.Links, g.Links[5]) }),
		changed(func(g *api.Graph) { g.Links[5].In = 1 }),
		changed(func(g *api.Graph) { g.Links[5].In = -1 }),
		changed(func(g *api.Graph) { g.Links[3].Out = 2 }),
		changed(func(g *api.Graph) { g.Links[0].Out = -1 }),
		changed(func(g *api.Graph) { g.Links[5].To = 8 }),
		changed(func(g *api.Graph) { g.Links[0].From = 0 }),
		changed(func(g *api.Graph) { g.Links[3].To = 4 }),                                     // two links to a sink
		changed(func(g *api.Graph) { g.Links = slices.Insert(g.Links, 5, link(5, 0, 7, 0)) }), // the same one
		changed(func(g *api.Graph) { g.Links = slices.Insert(g.Links, 4, link(5, 0, 3, 0)) }), // two links from a mixer
		{Nodes: []api.Node{node(2, api.NodeEffect, 1, 1), node(1, api.NodeEffect, 1, 1)}},
		{Nodes: []api.Node{node(2, api.NodeEffect, 1, 1), node(2, api.NodeEffect, 1, 1)}},
		changed(func(g *api.Graph) { g.Links = slices.Insert(g.Links, 1, link(1, 0, 5, 0)) }),
		changed(func(g *api.Graph) { g.Links[0], g.Links[1] = g.Links[1], g.Links[0] }),
		{Nodes: []api.Node{node(1, api.NodeEffect, 1, 1)}, Links: []api.Link{link(1, 0, 1, 0)}},
		{Nodes: []api.Node{node(1, api.NodeEffect, 1, 1), node(2, api.NodeEffect, 1, 1)}, Links: []api.Link{link(1, 0, 2, 0), link(2, 0, 1, 0)}},
	}
	for _, n := range wrongNodes {
		l = append(l, api.Graph{Nodes: []api.Node{n}})
	}
	return l
}

// P22.1
func TestValid(t *testing.T) {
	for i, g := range []api.Graph{{}, example(), many(64), {Nodes: []api.Node{node(1, api.NodeMixer, 1, 1), node(2, api.NodeSplit, 1, 1), node(1<<31-1, api.NodeSplit, 1, 8)}}, changed(func(g *api.Graph) { g.Links = nil }), changed(func(g *api.Graph) { g.Links = slices.Insert(g.Links, 1, link(1, 0, 5, 1)) })} {
		if !Valid(g) {
			t.Error(i)
		}
	}
	full := api.Graph{Nodes: []api.Node{node(60, api.NodeMixer, 8, 1)}}
	for id := range 33 {
		full.Nodes = slices.Insert(full.Nodes, id, node(id+1, api.NodeSource, 0, 1))
		for in := range 8 {
			full.Links = append(full.Links, link(id+1, 0, 60, in))
		}
	}
	all := full.Links
	full.Links = all[:256]
	if !Valid(full) {
		t.Error("256 links")
	}
	if g, e := Connect(full, link(33, 0, 60, 0)); e != api.ErrLimit || len(g.Nodes) != 0 {
		t.Error(e)
	}
	if _, e := Connect(full, link(33, 0, 60, 9)); e != api.ErrMissing {
		t.Error(e)
	}
	if _, e := Connect(full, link(1, 0, 60, 0)); e != api.ErrExists {
		t.Error(e)
	}
	full.Links = all[:257]
	if Valid(full) {
		t.Error("257 links")
	}
	for i, g := range invalid() {
		if Valid(g) {
			t.Error(i)
		}
	}
}

func isZero(g api.Graph) bool { return g.Nodes == nil && g.Links == nil }

// P22.2 to P22.5: what is not valid.
func TestInvalid(t *testing.T) {
	for i, g := range invalid() {
		if l, e := Order(g); e != api.ErrInvalid || l != nil {
			t.Error(i, l, e)
		}
		if x, e := Add(g, node(1, api.NodeSource, 0, 1)); e != api.ErrInvalid || !isZero(x) {
			t.Error(i, e)
		}
		if x, e := Remove(g, -7); e != api.ErrInvalid || !isZero(x) {
			t.Error(i, e)
		}
		if x, e := Connect(g, link(-1, -1, -1, -1)); e != api.ErrInvalid || !isZero(x) {
			t.Error(i, e)
		}
		if x, e := Disconnect(g, link(-1, -1, -1, -1)); e != api.ErrInvalid || !isZero(x) {
			t.Error(i, e)
		}
		if len(Reach(g, 1)) != 0 || len(Inputs(g, 5)) != 0 {
			t.Error(i)
		}
	}
}

// P22.2
func TestOrder(t *testing.T) {
	if l, e := Order(example()); e != api.OK || !slices.Equal(l, []int{1, 2, 5, 7, 3, 4, 6}) {
		t.Error(l, e)
	}
	if l, e := Order(many(4)); e != api.OK || !slices.Equal(l, []int{1, 2, 3, 4}) {
		t.Error(l, e)
	}
	if l, e := Order(api.Graph{}); e != api.OK || len(l) != 0 {
		t.Error(l, e)
	}
	back := api.Graph{Nodes: []api.Node{node(1, api.NodeSink, 1, 0), node(2, api.NodeEffect, 1, 1), node(3, api.NodeSource, 0, 1), node(4, api.NodeSource, 0, 1)}, Links: []api.Link{link(2, 0, 1, 0), link(4, 0, 2, 0)}}
	if l, e := Order(back); e != api.OK || !slices.Equal(l, []int{3, 4, 2, 1}) {
		t.Error(l, e)
	}
}

// P22.3
func TestAddAndRemove(t *testing.T) {
	g := example()
	g.Nodes = append(make([]api.Node, 0, 20), g.Nodes...)
	before := example()
	x, e := Add(g, node(9, api.NodeSource, 0, 1))
	y, f := Add(changed(func(g *api.Graph) { g.Nodes[0].ID, g.Links = 2, nil; g.Nodes = slices.Delete(g.Nodes, 1, 2) }), node(1, api.NodeSink, 1, 0))
	if e != api.OK || f != api.OK || !slices.Equal(x.Nodes, append(before.Nodes, node(9, api.NodeSource, 0, 1))) || !slices.Equal(x.Links, g.Links) || y.Nodes[0].ID != 1 || !Valid(y) {
		t.Error(x, y, e, f)
	}
	roomy := api.Graph{Nodes: append(make([]api.Node, 0, 9), node(5, api.NodeMixer, 1, 1), node(6, api.NodeMixer, 1, 1)), Links: make([]api.Link, 0, 9)}
	Add(roomy, node(1, api.NodeSource, 0, 1))
	linked, _ := Connect(roomy, link(5, 0, 6, 0))
	if !reflect.DeepEqual(g, before) || roomy.Nodes[0].ID != 5 || roomy.Links[:1][0] != (api.Link{}) || len(linked.Links) != 1 {
		t.Error("the argument was changed")
	}
	for _, n := range wrongNodes {
		if x, e := Add(g, n); e != api.ErrInvalid || !isZero(x) {
			t.Error(n, e)
		}
	}
	if _, e := Add(g, node(5, api.NodeSource, 0, 1)); e != api.ErrExists {
		t.Error(e)
	}
	if _, e := Add(many(64), node(64, api.NodeSource, 0, 1)); e != api.ErrExists {
		t.Error(e)
	}
	if x, e := Add(many(64), node(65, api.NodeSource, 0, 1)); e != api.ErrLimit || !isZero(x) {
		t.Error(e)
	}
	x, e = Remove(g, 3)
	if e != api.OK || len(x.Nodes) != 6 || !slices.Equal(x.Links, []api.Link{link(1, 0, 5, 0), link(2, 0, 5, 0), link(5, 0, 7, 0)}) || !Valid(x) {
		t.Error(x, e)
	}
	if x, e := Remove(g, 8); e != api.ErrMissing || !isZero(x) {
		t.Error(x, e)
	}
	if !reflect.DeepEqual(g, before) {
		t.Error("the argument was changed")
	}
}

// P22.4
func TestConnect(t *testing.T) {
	g := example()
	x, e := Connect(g, link(1, 0, 5, 1))
	if e != api.OK || !Valid(x) || !slices.Equal(x.Links, slices.Insert(slices.Clone(g.Links), 1, link(1, 0, 5, 1))) {
		t.Error(x, e)
	}
	open := changed(func(g *api.Graph) { g.Links = g.Links[:5] }) // 7 leads nowhere
	for _, c := range []struct {
		g api.Graph
		l api.Link
		e api.Errno
	}{
		{g, link(8, 0, 5, 0), api.ErrMissing}, {g, link(1, 0, 8, 0), api.ErrMissing}, {g, link(1, 1, 5, 0), api.ErrMissing}, {g, link(1, 0, 5, 2), api.ErrMissing}, {g, link(1, -1, 5, 0), api.ErrMissing}, {g, link(1, 0, 5, -1), api.ErrMissing}, {g, link(4, 0, 5, 0), api.ErrMissing},
		{g, link(1, 0, 5, 0), api.ErrExists}, {g, link(7, 0, 3, 0), api.ErrExists},
		{g, link(1, 0, 4, 0), api.ErrFull}, {g, link(5, 0, 5, 0), api.ErrFull}, {g, link(7, 0, 5, 1), api.ErrFull},
		{open, link(7, 0, 5, 1), api.ErrCycle}, {open, link(7, 0, 7, 0), api.ErrFull}, {open, link(3, 0, 5, 0), api.OK}, {open, link(7, 0, 3, 0), api.OK}, {open, link(2, 0, 3, 0), api.OK},
	} {
		if x, e := Connect(c.g, c.l); e != c.e || e != api.OK && !isZero(x) || e == api.OK && !Valid(x) {
			t.Error(c.l, x, e)
		}
	}
	if !reflect.DeepEqual(g, example()) {
		t.Error("the argument was changed")
	}
}

// P22.4
func TestDisconnect(t *testing.T) {
	g := example()
	for i, l := range g.Links {
		x, e := Disconnect(g, l)
		if e != api.OK || !Valid(x) || !slices.Equal(x.Links, slices.Delete(slices.Clone(g.Links), i, i+1)) {
			t.Error(x, e)
		}
	}
	for _, l := range []api.Link{link(8, 0, 5, 0), link(1, 1, 5, 0), link(1, 0, 5, 1), link(1, 0, 6, 0)} {
		if x, e := Disconnect(g, l); e != api.ErrMissing || !isZero(x) {
			t.Error(x, e)
		}
	}
	if !reflect.DeepEqual(g, example()) {
		t.Error("the argument was changed")
	}
}

// P22.5
func TestReachAndInputs(t *testing.T) {
	g := example()
	for id, want := range map[int][]int{1: {3, 4, 5, 6, 7}, 5: {3, 4, 6, 7}, 3: {4, 6}, 4: nil, 8: nil, -1: nil} {
		if l := Reach(g, id); !slices.Equal(l, want) {
			t.Error(id, l)
		}
	}
	for id, want := range map[int][]api.Link{5: {link(1, 0, 5, 0), link(2, 0, 5, 0)}, 1: nil, 6: {link(3, 1, 6, 0)}, 9: nil} {
		if l := Inputs(g, id); !slices.Equal(l, want) {
			t.Error(id, l)
		}
	}
	Inputs(g, 5)[0].From = 99
	if !reflect.DeepEqual(g, example()) {
		t.Error("shared memory")
	}
}

// The consequence of chapter 22: a link is refused because of a cycle exactly if it would close one.
func TestCycles(t *testing.T) {
	g := many(6)
	for _, l := range []api.Link{link(1, 0, 3, 0), link(3, 0, 2, 0), link(2, 0, 6, 0)} {
		g, _ = Connect(g, l)
	}
	for from := 1; from <= 6; from++ {
		for to := 1; to <= 6; to++ {
			if slices.ContainsFunc(g.Links, func(l api.Link) bool { return l.From == from }) {
				continue
			}
			_, e := Connect(g, link(from, 0, to, 1))
			closes := from == to || slices.Contains(Reach(g, to), from)
			if closes != (e == api.ErrCycle) || !closes && e != api.OK {
				t.Error(from, to, e)
			}
		}
	}
}
