package schedule

import (
	"slices"
	"testing"

	"soundservice/api"
	"soundservice/graph"
)

// lattice is a graph of nodes with links between them.
func lattice(nodes int, links ...[2]int) api.Graph {
	var g api.Graph
	for i := range nodes {
		g.Nodes = append(g.Nodes, api.Node{ID: i + 1, Kind: api.NodeSplit, Ins: 1, Outs: 8})
	}
	for _, l := range links {
		g.Nodes[l[1]-1] = api.Node{ID: l[1], Kind: api.NodeMixer, Ins: 1, Outs: 1}
		g.Links = append(g.Links, api.Link{From: l[0], Out: 0, To: l[1]})
	}
	return g
}

func slot(node, worker, start, end int) api.Slot {
	return api.Slot{Node: node, Worker: worker, Start: start, End: end}
}

var two = lattice(3, [2]int{1, 3}, [2]int{2, 3}) // 3 waits for 1 and 2

// P25.1
func TestCompile(t *testing.T) {
	for i, c := range []struct {
		g       api.Graph
		costs   []int
		workers int
		want    []api.Slot
	}{
		{two, []int{5, 7, 1}, 2, []api.Slot{slot(1, 0, 0, 5), slot(2, 1, 0, 7), slot(3, 0, 7, 8)}},
		{two, []int{5, 7, 1}, 1, []api.Slot{slot(1, 0, 0, 5), slot(2, 0, 5, 12), slot(3, 0, 12, 13)}},
		{two, []int{0, 0, 0}, 1, []api.Slot{slot(1, 0, 0, 0), slot(2, 0, 0, 0), slot(3, 0, 0, 0)}},
		{two, []int{0, 7, 0}, 8, []api.Slot{slot(1, 0, 0, 0), slot(2, 0, 0, 7), slot(3, 0, 7, 7)}},
		{lattice(4), []int{3, 3, 2, 2}, 2, []api.Slot{slot(1, 0, 0, 3), slot(2, 1, 0, 3), slot(3, 0, 3, 5), slot(4, 1, 3, 5)}},
		{lattice(4, [2]int{1, 2}), []int{3, 4, 2, 2}, 2, []api.Slot{slot(1, 0, 0, 3), slot(3, 1, 0, 2), slot(4, 1, 2, 4), slot(2, 0, 3, 7)}},
		{api.Graph{}, nil, 3, nil},
	} {
		if l, e := Compile(c.g, c.costs, c.workers); e != api.OK || !slices.Equal(l, c.want) || !Valid(c.g, c.costs, c.workers, l) {
			t.Error(i, l, e)
		}
	}
}

// P25.1, P25.2, P25.3: what is no problem.
func TestNoProblem(t *testing.T) {
	broken := lattice(3)
	broken.Nodes[2].ID = 2
	for i, c := range []struct {
		g       api.Graph
		costs   []int
		workers int
	}{{broken, []int{1, 2, 3}, 1}, {two, []int{1, 2}, 1}, {two, []int{1, 2, 3, 4}, 1}, {two, []int{1, -1, 2}, 1}, {two, []int{1, api.MaxCost + 1, 2}, 1}, {two, []int{1, 2, 3}, 0}, {two, []int{1, 2, 3}, 9}, {two, []int{1, 2, 3}, -1}} {
		if l, e := Compile(c.g, c.costs, c.workers); e != api.ErrInvalid || l != nil {
			t.Error(i, l, e)
		}
		if Valid(c.g, c.costs, c.workers, []api.Slot{slot(1, 0, 0, 1), slot(2, 0, 1, 3), slot(3, 0, 3, 6)}) || Bound(c.g, c.costs, c.workers) != 0 {
			t.Error(i)
		}
		if i < 5 && Critical(c.g, c.costs) != 0 {
			t.Error(i)
		}
	}
}

// P25.2
func TestValid(t *testing.T) {
	costs := []int{5, 7, 1}
	for i, c := range []struct {
		l  []api.Slot
		ok bool
	}{
		{[]api.Slot{slot(1, 0, 0, 5), slot(2, 1, 0, 7), slot(3, 0, 7, 8)}, true},
		{[]api.Slot{slot(3, 0, 100, 101), slot(2, 0, 9, 16), slot(1, 0, 3, 8)}, true},
		{[]api.Slot{slot(1, 0, 0, 5), slot(2, 1, 0, 7)}, false},
		{[]api.Slot{slot(1, 0, 0, 5), slot(2, 1, 0, 7), slot(3, 0, 7, 8), slot(3, 0, 9, 10)}, false},
		{[]api.Slot{slot(1, 0, 0, 5), slot(1, 1, 0, 5), slot(3, 0, 7, 8)}, false},
		{[]api.Slot{slot(1, 0, 0, 5), slot(2, 1, 0, 7), slot(4, 0, 7, 8)}, false},
		{[]api.Slot{slot(1, 0, 0, 5), slot(2, 2, 0, 7), slot(3, 0, 7, 8)}, false},
		{[]api.Slot{slot(1, -1, 0, 5), slot(2, 1, 0, 7), slot(3, 0, 7, 8)}, false},
		{[]api.Slot{slot(1, 0, -1, 4), slot(2, 1, 0, 7), slot(3, 0, 7, 8)}, false},
		{[]api.Slot{slot(1, 0, 0, 6), slot(2, 1, 0, 7), slot(3, 0, 7, 8)}, false},
		{[]api.Slot{slot(1, 0, 0, 5), slot(2, 0, 4, 11), slot(3, 0, 11, 12)}, false},
		{[]api.Slot{slot(1, 0, 0, 5), slot(2, 1, 0, 7), slot(3, 0, 6, 7)}, false},
		{[]api.Slot{slot(1, 0, 0, 5), slot(2, 1, 0, 7), slot(3, 0, 1<<63-1, -1<<63)}, false},
	} {
		if Valid(two, costs, 2, c.l) != c.ok {
			t.Error(i)
		}
	}
	empty := []api.Slot{slot(1, 0, 3, 3), slot(2, 0, 0, 7), slot(3, 0, 7, 8)} // a slot of no length within another one
	if Valid(two, []int{0, 7, 1}, 1, empty) {
		t.Error("overlap")
	}
	empty[0] = slot(1, 0, 7, 7)
	if !Valid(two, []int{0, 7, 1}, 1, empty) {
		t.Error("no overlap")
	}
}

// P25.3
func TestSums(t *testing.T) {
	if Span(nil) != 0 || Span([]api.Slot{slot(1, 0, 0, 5), slot(2, 0, 0, 3)}) != 5 || Span([]api.Slot{slot(1, 0, -9, -5)}) != 0 {
		t.Error("Span")
	}
	for i, c := range []struct {
		g                        api.Graph
		costs                    []int
		workers, critical, bound int
	}{
		{two, []int{5, 7, 1}, 2, 8, 10}, {two, []int{5, 7, 1}, 1, 8, 13}, {two, []int{5, 7, 1}, 8, 8, (13 + 56) / 8}, {api.Graph{}, nil, 3, 0, 0},
		{lattice(4, [2]int{1, 2}, [2]int{2, 4}), []int{1, 2, 30, 4}, 2, 30, (37 + 30) / 2}, {lattice(4, [2]int{1, 2}, [2]int{2, 4}), []int{10, 20, 30, 4}, 3, 34, (64 + 68) / 3},
		{two, []int{api.MaxCost, api.MaxCost, api.MaxCost}, 1, 2 * api.MaxCost, 3 * api.MaxCost},
	} {
		if n := Critical(c.g, c.costs); n != c.critical {
			t.Error(i, n)
		}
		if n := Bound(c.g, c.costs, c.workers); n != c.bound {
			t.Error(i, n)
		}
	}
}

// The consequences of chapter 25, for many graphs.
func TestConsequences(t *testing.T) {
	seed := uint32(7)
	below := func(n int) int {
		seed = seed*1664525 + 1013904223
		return int(seed>>16) % n
	}
	for range 300 {
		var g api.Graph
		for i := range 1 + below(12) {
			g.Nodes = append(g.Nodes, api.Node{ID: i + 1, Kind: api.NodeMixer, Ins: 8, Outs: 1})
		}
		var costs []int
		sum := 0
		for range g.Nodes {
			costs = append(costs, below(9))
			sum += costs[len(costs)-1]
			if x, e := graph.Connect(g, api.Link{From: 1 + below(len(g.Nodes)), To: 1 + below(len(g.Nodes)), In: below(8)}); e == api.OK {
				g = x
			}
		}
		for workers := 1; workers <= 4; workers++ {
			l, e := Compile(g, costs, workers)
			span := Span(l)
			if e != api.OK || !Valid(g, costs, workers, l) || span < Critical(g, costs) || span > Bound(g, costs, workers) || workers == 1 && span != sum {
				t.Fatal(g, costs, workers, l)
			}
		}
	}
}
