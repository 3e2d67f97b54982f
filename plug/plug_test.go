package plug

import (
	"reflect"
	"slices"
	"testing"

	"soundservice/api"
)

func plugs(settle int, seen ...api.Sighting) api.Plugs { return api.Plugs{Settle: settle, Seen: seen} }

func at(id uint64, since int64) api.Sighting { return api.Sighting{ID: id, Since: since} }

func full() api.Plugs {
	p := plugs(0)
	for id := range uint64(8) {
		p.Seen = append(p.Seen, at(2*id+2, 0))
	}
	return p
}

var invalid = []api.Plugs{plugs(-1), plugs(api.MaxQuanta + 1), plugs(0, at(0, 1)), plugs(0, at(2, 1), at(2, 1)), plugs(0, at(3, 1), at(2, 1)), plugs(0, at(2, -1)), plugs(0, at(2, api.MaxTime+1)), {Seen: append(full().Seen, at(99, 1))}}

func isZero(p api.Plugs) bool { return reflect.DeepEqual(p, api.Plugs{}) }

// P33.1
func TestValid(t *testing.T) {
	for i, p := range []api.Plugs{{}, full(), plugs(api.MaxQuanta, at(1, 0), at(1<<64-1, api.MaxTime))} {
		if !Valid(p) {
			t.Error(i)
		}
	}
	for i, p := range invalid {
		if Valid(p) || Ready(p, 5) != nil {
			t.Error(i)
		}
		if x, e := Plug(p, 0, -1); e != api.ErrInvalid || !isZero(x) {
			t.Error(i, e)
		}
		if x, e := Unplug(p, 2); e != api.ErrInvalid || !isZero(x) {
			t.Error(i, e)
		}
	}
}

// P33.1
func TestPlugAndUnplug(t *testing.T) {
	p := plugs(3, append(make([]api.Sighting, 0, 9), at(2, 1), at(5, 9))...)
	x, e := Plug(p, 4, 7)
	if e != api.OK || !reflect.DeepEqual(x, plugs(3, at(2, 1), at(4, 7), at(5, 9))) {
		t.Error(x, e)
	}
	x, e = Unplug(p, 2)
	if e != api.OK || !reflect.DeepEqual(x, plugs(3, at(5, 9))) || !reflect.DeepEqual(p, plugs(3, at(2, 1), at(5, 9))) {
		t.Error(x, e)
	}
	for i, c := range []struct {
		p  api.Plugs
		id uint64
		at int64
		e  api.Errno
	}{{full(), 0, 0, api.ErrRange}, {full(), 2, -1, api.ErrRange}, {full(), 3, api.MaxTime + 1, api.ErrRange}, {full(), 4, 0, api.ErrExists}, {full(), 3, 0, api.ErrLimit}} {
		if x, e := Plug(c.p, c.id, c.at); e != c.e || !isZero(x) {
			t.Error(i, e)
		}
	}
	for _, id := range []uint64{0, 3} {
		if x, e := Unplug(full(), id); e != api.ErrMissing || !isZero(x) {
			t.Error(id, e)
		}
	}
}

// P33.1
func TestReady(t *testing.T) {
	p := plugs(3, at(2, 10), at(5, 7), at(9, 11))
	for now, want := range map[int64][]uint64{0: nil, 9: nil, 10: {5}, 12: {5}, 13: {2, 5}, 14: {2, 5, 9}, api.MaxTime: {2, 5, 9}, -1: nil, api.MaxTime + 1: nil} {
		if l := Ready(p, now); !slices.Equal(l, want) {
			t.Error(now, l)
		}
	}
	if l := Ready(plugs(0, at(1, 4)), 4); !slices.Equal(l, []uint64{1}) {
		t.Error(l)
	}
}

// P33.2
func TestBegin(t *testing.T) {
	for i, c := range []struct {
		from, to    uint64
		fade        int
		phase, left int
	}{
		{1, 2, 5, api.MoveOut, 5}, {0, 2, 5, api.MoveIn, 5}, {1, 0, 5, api.MoveOut, 5}, {0, 0, 5, api.MoveDone, 0}, {1, 2, 1, api.MoveOut, 1}, {0, 2, 1, api.MoveIn, 1}, {1, 2, 0, api.MoveDone, 0}, {1, 2, -1, api.MoveDone, 0}, {1, 2, api.MaxQuanta, api.MoveOut, api.MaxQuanta}, {0, 2, api.MaxQuanta + 1, api.MoveDone, 0},
	} {
		if m := Begin(7, c.from, c.to, c.fade); m != (api.Move{Stream: 7, From: c.from, To: c.to, Phase: c.phase, Left: c.left}) {
			t.Error(i, m)
		}
	}
}

// P33.3, P33.4
func TestAdvanceAndWanted(t *testing.T) {
	m := Begin(7, 1, 2, 2)
	for i, c := range []struct {
		phase, left int
		device      uint64
		heard       bool
	}{{api.MoveOut, 2, 1, false}, {api.MoveOut, 1, 1, false}, {api.MoveIn, 2, 2, true}, {api.MoveIn, 1, 2, true}, {api.MoveDone, 0, 2, true}, {api.MoveDone, 0, 2, true}} {
		device, heard := Wanted(m)
		if m.Phase != c.phase || m.Left != c.left || device != c.device || heard != c.heard || m.Stream != 7 || m.From != 1 || m.To != 2 {
			t.Error(i, m, device, heard)
		}
		m = Advance(m, 2)
	}
	for i, c := range []struct {
		m    api.Move
		fade int
		want api.Move
	}{
		{api.Move{From: 1, Phase: api.MoveOut, Left: 1}, 3, api.Move{From: 1, Phase: api.MoveDone}}, {api.Move{To: 2, Phase: api.MoveOut, Left: 1}, 3, api.Move{To: 2, Phase: api.MoveIn, Left: 3}}, {api.Move{To: 2, Phase: api.MoveOut, Left: 1}, 1, api.Move{To: 2, Phase: api.MoveIn, Left: 1}}, {api.Move{To: 2, Phase: api.MoveOut, Left: 9}, 3, api.Move{To: 2, Phase: api.MoveOut, Left: 8}},
		{api.Move{To: 2, Phase: api.MoveIn, Left: 0}, 3, api.Move{To: 2, Phase: api.MoveDone}}, {api.Move{To: 2, Phase: api.MoveOut, Left: -1 << 63}, 3, api.Move{To: 2, Phase: api.MoveDone}}, {api.Move{To: 2, Phase: 0, Left: 5}, 3, api.Move{To: 2, Phase: api.MoveDone}}, {api.Move{To: 2, Phase: 9, Left: 5}, 3, api.Move{To: 2, Phase: api.MoveDone}},
		{api.Move{To: 2, Phase: api.MoveIn, Left: 5}, 0, api.Move{To: 2, Phase: api.MoveDone}}, {api.Move{To: 2, Phase: api.MoveIn, Left: 5}, api.MaxQuanta + 1, api.Move{To: 2, Phase: api.MoveDone}},
	} {
		if x := Advance(c.m, c.fade); x != c.want {
			t.Error(i, x)
		}
	}
	for _, phase := range []int{0, 4, -1} {
		if device, heard := Wanted(api.Move{From: 1, To: 2, Phase: phase}); device != 0 || heard {
			t.Error(phase)
		}
	}
}
