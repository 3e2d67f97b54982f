package admission

import (
	"reflect"
	"testing"

	"soundservice/api"
	"soundservice/graph"
	"soundservice/schedule"
)

func book(workers, capacity int) api.Book {
	return api.Book{Budget: api.Budget{Workers: workers, Capacity: capacity, Period: 64}}
}

// example has two devices and three seats.
func example() api.Book {
	b := book(2, 100000)
	b.Devices = []api.Hosted{{ID: 5, Channels: 2}, {ID: 9, Channels: 1}}
	b.Seats = []api.Seat{{ID: 3, Device: 9, Channels: 2, Latency: 100}, {ID: 4, Device: 5, Channels: 2, Latency: 0}, {ID: 8, Device: 5, Channels: 1, Latency: 7}}
	return b
}

func changed(f func(*api.Book)) api.Book {
	b := example()
	f(&b)
	return b
}

func isZero(b api.Book) bool { return reflect.DeepEqual(b, api.Book{}) }

func improper() []api.Book {
	return []api.Book{
		{},
		changed(func(b *api.Book) { b.Budget.Workers = 0 }), changed(func(b *api.Book) { b.Budget.Workers = 9 }), changed(func(b *api.Book) { b.Budget.Capacity = -1 }), changed(func(b *api.Book) { b.Budget.Capacity = api.MaxCost + 1 }),
		changed(func(b *api.Book) { b.Budget.Period = 15 }), changed(func(b *api.Book) { b.Budget.Period = 8193 }),
		changed(func(b *api.Book) { b.Devices[0].ID = 0 }), changed(func(b *api.Book) { b.Devices[0].ID = 9 }), changed(func(b *api.Book) { b.Devices[0].ID = 10 }), changed(func(b *api.Book) { b.Devices[1].Channels = 0 }), changed(func(b *api.Book) { b.Devices[1].Channels = 9 }),
		changed(func(b *api.Book) { b.Seats[0].ID = 0 }), changed(func(b *api.Book) { b.Seats[0].ID = 4 }), changed(func(b *api.Book) { b.Seats[0].ID = 5 }), changed(func(b *api.Book) { b.Seats[0].Device = 6 }),
		changed(func(b *api.Book) { b.Seats[1].Channels = 0 }), changed(func(b *api.Book) { b.Seats[1].Channels = 9 }), changed(func(b *api.Book) { b.Seats[1].Latency = -1 }), changed(func(b *api.Book) { b.Seats[1].Latency = api.MaxTime + 1 }),
		changed(func(b *api.Book) {
			for id := uint64(10); len(b.Devices) < 9; id++ {
				b.Devices = append(b.Devices, api.Hosted{ID: id, Channels: 1})
			}
		}),
		changed(func(b *api.Book) {
			for id := 10; len(b.Seats) < 25; id++ {
				b.Seats = append(b.Seats, api.Seat{ID: id, Device: 5, Channels: 1})
			}
		}),
	}
}

// costs of the parts of the example, and its load with two workers.
const (
	stereoDevice = 400 + 8*2*64
	monoDevice   = 400 + 8*64
	twoToOne     = 300 + (8+2+2)*64
	twoToTwo     = 300 + (8+4+4)*64
	oneToTwo     = 300 + (4+2+4)*64
	exampleLoad  = (stereoDevice + monoDevice + twoToOne + twoToTwo + oneToTwo + stereoDevice + twoToTwo) / 2
)

// P27.1
func TestGraphAndLoad(t *testing.T) {
	g, costs := Graph(example())
	want := api.Graph{
		Nodes: []api.Node{{ID: 1, Kind: api.NodeMixer, Ins: 1, Outs: 1}, {ID: 2, Kind: api.NodeSink, Ins: 1}, {ID: 3, Kind: api.NodeMixer, Ins: 1, Outs: 1}, {ID: 4, Kind: api.NodeSink, Ins: 1}, {ID: 17, Kind: api.NodeSource, Outs: 1}, {ID: 18, Kind: api.NodeSource, Outs: 1}, {ID: 19, Kind: api.NodeSource, Outs: 1}},
		Links: []api.Link{{From: 1, To: 2}, {From: 3, To: 4}, {From: 17, To: 3}, {From: 18, To: 1}, {From: 19, To: 1}},
	}
	if !reflect.DeepEqual(g, want) || !graph.Valid(g) || !reflect.DeepEqual(costs, []int{0, stereoDevice, 0, monoDevice, twoToOne, twoToTwo, oneToTwo}) || Load(example()) != exampleLoad {
		t.Error(g, costs, Load(example()))
	}
	if g, costs := Graph(book(1, 0)); len(g.Nodes)+len(g.Links)+len(costs) != 0 || Load(book(1, 0)) != 0 {
		t.Error("an empty book")
	}
}

// P27.1
func TestValid(t *testing.T) {
	for i, b := range []api.Book{book(1, 0), book(8, api.MaxCost), example(), changed(func(b *api.Book) { b.Budget.Capacity = exampleLoad })} {
		if !Valid(b) {
			t.Error(i)
		}
	}
	full := changed(func(b *api.Book) { b.Budget.Capacity = exampleLoad - 1 })
	if Valid(full) || Load(full) != exampleLoad {
		t.Error("the capacity")
	}
	for i, b := range improper() {
		if g, costs := Graph(b); Valid(b) || len(g.Nodes)+len(g.Links)+len(costs) != 0 || Load(b) != 0 {
			t.Error(i)
		}
	}
}

// P27.2 to P27.4: books that are not valid.
func TestInvalid(t *testing.T) {
	for i, b := range append(improper(), changed(func(b *api.Book) { b.Budget.Capacity = 5 })) {
		if x, e := Host(b, api.Hosted{}); e != api.ErrInvalid || !isZero(x) {
			t.Error(i, e)
		}
		if x, e := Drop(b, 77); e != api.ErrInvalid || !isZero(x) {
			t.Error(i, e)
		}
		if x, d, e := Admit(b, api.Seat{}, -1); e != api.ErrInvalid || !isZero(x) || d != (api.Deny{}) {
			t.Error(i, e)
		}
		if x, e := Leave(b, 77); e != api.ErrInvalid || !isZero(x) {
			t.Error(i, e)
		}
		if x, e := Move(b, 77, 77); e != api.ErrInvalid || !isZero(x) {
			t.Error(i, e)
		}
	}
}

// P27.2
func TestHostAndDrop(t *testing.T) {
	b := example()
	x, e := Host(b, api.Hosted{ID: 7, Channels: 8})
	if want := changed(func(b *api.Book) {
		b.Devices = []api.Hosted{b.Devices[0], {ID: 7, Channels: 8}, b.Devices[1]}
	}); e != api.OK || !reflect.DeepEqual(x, want) {
		t.Error(x, e)
	}
	roomy := example()
	roomy.Devices, roomy.Seats = append(make([]api.Hosted, 0, 9), roomy.Devices...), append(make([]api.Seat, 0, 9), roomy.Seats...)
	Host(roomy, api.Hosted{ID: 1, Channels: 1})
	if x, _, e := Admit(roomy, api.Seat{ID: 1, Device: 5, Channels: 1}, 0); e != api.OK || x.Seats[0].Latency != 0 {
		t.Error(e)
	}
	if !reflect.DeepEqual(roomy, example()) {
		t.Error("the argument was changed")
	}
	eight := book(1, api.MaxCost)
	for id := range uint64(8) {
		if eight, e = Host(eight, api.Hosted{ID: 1<<64 - 1 - id, Channels: 8}); e != api.OK {
			t.Error(e)
		}
	}
	tight := book(1, stereoDevice)
	for i, c := range []struct {
		b api.Book
		h api.Hosted
		e api.Errno
	}{
		{eight, api.Hosted{ID: 0, Channels: 1}, api.ErrRange}, {eight, api.Hosted{ID: 1<<64 - 1, Channels: 0}, api.ErrRange}, {b, api.Hosted{ID: 1, Channels: 9}, api.ErrRange},
		{eight, api.Hosted{ID: 1<<64 - 1, Channels: 1}, api.ErrExists}, {eight, api.Hosted{ID: 1, Channels: 1}, api.ErrLimit}, {tight, api.Hosted{ID: 1, Channels: 2}, api.OK}, {tight, api.Hosted{ID: 1, Channels: 3}, api.ErrFull},
	} {
		if x, e := Host(c.b, c.h); e != c.e || e != api.OK && !isZero(x) {
			t.Error(i, e)
		}
	}
	empty := changed(func(b *api.Book) { b.Seats = b.Seats[1:] })
	x, e = Drop(empty, 9)
	if len(empty.Devices) != 2 || empty.Devices[1] != b.Devices[1] {
		t.Error("the argument was changed")
	}
	if e != api.OK || !reflect.DeepEqual(x.Devices, b.Devices[:1]) || !reflect.DeepEqual(x.Seats, b.Seats[1:]) {
		t.Error(x, e)
	}
	for id, want := range map[uint64]api.Errno{9: api.ErrState, 5: api.ErrState, 6: api.ErrMissing, 0: api.ErrMissing} {
		if x, e := Drop(b, id); e != want || !isZero(x) {
			t.Error(id, e)
		}
	}
	if !reflect.DeepEqual(b, example()) {
		t.Error("the argument was changed")
	}
}

// P27.3
func TestAdmit(t *testing.T) {
	b := example()
	x, d, e := Admit(b, api.Seat{ID: 5, Device: 9, Channels: 1, Latency: 50}, 20)
	want := changed(func(b *api.Book) {
		b.Seats = []api.Seat{b.Seats[0], b.Seats[1], {ID: 5, Device: 9, Channels: 1, Latency: 20}, b.Seats[2]}
	})
	if e != api.OK || d != (api.Deny{}) || !reflect.DeepEqual(x, want) || !reflect.DeepEqual(b, example()) {
		t.Error(x, d, e)
	}
	full := book(8, api.MaxCost)
	full.Devices = []api.Hosted{{ID: 1, Channels: 1}}
	for id := 1; id <= 24; id++ {
		if full, _, e = Admit(full, api.Seat{ID: id, Device: 1, Channels: 8, Latency: api.MaxTime}, api.MaxTime); e != api.OK {
			t.Error(e)
		}
	}
	tight := book(1, 2000)
	tight.Devices = []api.Hosted{{ID: 1, Channels: 2}}
	seat := func(id, channels, latency int, device uint64) api.Seat {
		return api.Seat{ID: id, Device: device, Channels: channels, Latency: latency}
	}
	for i, c := range []struct {
		b      api.Book
		s      api.Seat
		needed int
		d      api.Deny
		e      api.Errno
	}{
		{full, seat(0, 1, 0, 7), 5, api.Deny{}, api.ErrRange}, {full, seat(-3, 1, 0, 1), 0, api.Deny{}, api.ErrRange}, {full, seat(3, 0, 0, 1), 0, api.Deny{}, api.ErrRange}, {full, seat(3, 9, 0, 1), 0, api.Deny{}, api.ErrRange},
		{full, seat(3, 1, -1, 1), 0, api.Deny{}, api.ErrRange}, {full, seat(3, 1, api.MaxTime+1, 1), 0, api.Deny{}, api.ErrRange}, {full, seat(3, 1, 0, 1), -1, api.Deny{}, api.ErrRange}, {full, seat(3, 1, 0, 1), api.MaxTime + 1, api.Deny{}, api.ErrRange},
		{full, seat(3, 1, 0, 7), 5, api.Deny{}, api.ErrExists}, {full, seat(30, 1, 0, 7), 5, api.Deny{Kind: api.DenyDevice}, api.ErrMissing}, {full, seat(30, 1, 0, 1), 5, api.Deny{Kind: api.DenyStreams, Need: 25, Have: 24}, api.ErrFull},
		{tight, seat(3, 2, 4, 1), 5, api.Deny{Kind: api.DenyLatency, Need: 5, Have: 4}, api.ErrFull}, {tight, seat(3, 2, 4, 1), 4, api.Deny{Kind: api.DenyCost, Need: 2748, Have: 2000}, api.ErrFull},
	} {
		if x, d, e := Admit(c.b, c.s, c.needed); e != c.e || d != c.d || !isZero(x) {
			t.Error(i, x, d, e)
		}
	}
	tight.Budget.Capacity = 2748
	if x, _, e := Admit(tight, seat(3, 2, 4, 1), 4); e != api.OK || !Valid(x) {
		t.Error(e)
	}
}

// P27.4
func TestLeaveAndMove(t *testing.T) {
	b := example()
	x, e := Leave(b, 4)
	if want := changed(func(b *api.Book) { b.Seats = []api.Seat{b.Seats[0], b.Seats[2]} }); e != api.OK || !reflect.DeepEqual(x, want) {
		t.Error(x, e)
	}
	if x, e := Leave(b, 5); e != api.ErrMissing || !isZero(x) {
		t.Error(x, e)
	}
	x, e = Move(b, 4, 9)
	if want := changed(func(b *api.Book) { b.Seats[1].Device = 9 }); e != api.OK || !reflect.DeepEqual(x, want) {
		t.Error(x, e)
	}
	if x, e := Move(b, 5, 9); e != api.ErrMissing || !isZero(x) {
		t.Error(x, e)
	}
	if x, e := Move(b, 4, 6); e != api.ErrMissing || !isZero(x) {
		t.Error(x, e)
	}
	tight := changed(func(b *api.Book) { b.Budget.Capacity = exampleLoad })
	if x, e := Move(tight, 3, 5); e != api.ErrFull || !isZero(x) { // two to two channels costs more than two to one
		t.Error(x, e)
	}
	if _, e := Move(tight, 4, 5); e != api.OK {
		t.Error(e)
	}
	if !reflect.DeepEqual(b, example()) {
		t.Error("the argument was changed")
	}
}

// The consequences of chapter 27: books stay valid, their schedules fit, and what was refused because of the cost does not fit.
func TestConsequences(t *testing.T) {
	seed := uint32(5)
	below := func(n int) int {
		seed = seed*1664525 + 1013904223
		return int(seed>>16) % n
	}
	b := book(3, 9000)
	refused := 0
	for range 1500 {
		var x api.Book
		var d api.Deny
		e := api.OK
		id, device := 1+below(12), uint64(1+below(4))
		switch below(6) {
		case 0:
			x, e = Host(b, api.Hosted{ID: device, Channels: 1 + below(4)})
		case 1:
			x, e = Drop(b, device)
		case 2, 3:
			x, d, e = Admit(b, api.Seat{ID: id, Device: device, Channels: 1 + below(4), Latency: 9}, below(10))
		case 4:
			x, e = Leave(b, id)
		case 5:
			x, e = Move(b, id, device)
		}
		if d.Kind == api.DenyCost {
			refused++
			if d.Need <= d.Have {
				t.Error(d)
			}
		}
		if e == api.OK {
			b = x
		}
		g, costs := Graph(b)
		if l, f := schedule.Compile(g, costs, 3); !Valid(b) || f != api.OK || schedule.Span(l) > 9000 {
			t.Fatal(b)
		}
	}
	if refused == 0 {
		t.Error("nothing was refused")
	}
}
