package ring

import (
	"reflect"
	"slices"
	"testing"

	"soundservice/api"
)

const hi = 1<<23 - 1

func isZero(r api.Ring) bool { return reflect.DeepEqual(r, api.Ring{}) }

var invalid = []api.Ring{
	{}, {Channels: 1}, {Channels: 0, Capacity: 1}, {Channels: 9, Capacity: 1}, {Channels: 1, Capacity: 65537}, {Channels: 1, Capacity: -1},
	{Channels: 1, Capacity: 4, Read: -1, Written: -1}, {Channels: 1, Capacity: 4, Read: 2, Written: 1}, {Channels: 1, Capacity: 4, Read: 1<<50 + 1, Written: 1<<50 + 1},
	{Channels: 1, Capacity: 4, Written: 1}, {Channels: 1, Capacity: 4, Written: 1, Data: []int32{1, 2}}, {Channels: 2, Capacity: 4, Written: 1, Data: []int32{1}},
	{Channels: 1, Capacity: 1, Written: 2, Data: []int32{1, 2}}, {Channels: 1, Capacity: 1, Written: 1, Data: []int32{hi + 1}},
}

// P17.1
func TestValidNewFill(t *testing.T) {
	for _, r := range []api.Ring{{Channels: 8, Capacity: 65536}, {Channels: 2, Capacity: 1, Read: 1<<50 - 1, Written: 1 << 50, Data: []int32{1, 2}}} {
		if !Valid(r) || Fill(r) != len(r.Data)/2 {
			t.Error(r)
		}
	}
	for i, r := range invalid {
		if Valid(r) || Fill(r) != 0 {
			t.Error(i)
		}
	}
	if r, e := New(3, 9); e != api.OK || r.Channels != 3 || r.Capacity != 9 || r.Written != 0 || r.Read != 0 || len(r.Data) != 0 {
		t.Error(r, e)
	}
	for _, c := range [][2]int{{0, 1}, {9, 1}, {-1, 1}, {1, 0}, {1, -1}, {1, 65537}} {
		if r, e := New(c[0], c[1]); e != api.ErrRange || !isZero(r) {
			t.Error(c, r, e)
		}
	}
}

// P17.2
func TestWrite(t *testing.T) {
	r := api.Ring{Channels: 2, Capacity: 3, Written: 6, Read: 5, Data: append(make([]int32, 0, 20), 1, 2)}
	x, lost, e := Write(r, api.Block{Channels: 2, Data: []int32{3, 4}})
	if e != api.OK || lost != 0 || x.Written != 7 || x.Read != 5 || !slices.Equal(x.Data, []int32{1, 2, 3, 4}) {
		t.Error(x, lost, e)
	}
	y, lost, e := Write(r, api.Block{Channels: 2, Data: []int32{5, 6, 7, 8, 9, 10}})
	if e != api.OK || lost != 1 || y.Written != 8 || !slices.Equal(y.Data, []int32{1, 2, 5, 6, 7, 8}) || x.Data[2] != 3 {
		t.Error(y, lost, e)
	}
	end := api.Ring{Channels: 1, Capacity: 2, Written: 1<<50 - 1, Read: 1<<50 - 1}
	for _, c := range []struct {
		r    api.Ring
		b    api.Block
		lost int
		e    api.Errno
	}{
		{invalid[0], api.Block{Channels: 1}, 0, api.ErrInvalid}, {r, api.Block{}, 0, api.ErrInvalid}, {r, api.Block{Channels: 1, Data: []int32{hi + 1}}, 0, api.ErrInvalid},
		{r, api.Block{Channels: 1}, 0, api.ErrMismatch}, {end, api.Block{Channels: 2, Data: []int32{1, 2, 3, 4}}, 0, api.ErrMismatch},
		{end, api.Block{Channels: 1, Data: []int32{1}}, 0, api.OK}, {end, api.Block{Channels: 1, Data: []int32{1, 2}}, 0, api.ErrRange}, {end, api.Block{Channels: 1}, 0, api.OK},
		{api.Ring{Channels: 1, Capacity: 1, Written: 1 << 50, Read: 1<<50 - 1, Data: []int32{1}}, api.Block{Channels: 1, Data: []int32{1, 2}}, 2, api.OK},
	} {
		if x, lost, e := Write(c.r, c.b); e != c.e || lost != c.lost || e != api.OK && !isZero(x) {
			t.Error(c, x, lost, e)
		}
	}
}

// P17.3
func TestRead(t *testing.T) {
	r, _ := New(1, 2)
	r, lost, _ := Write(r, api.Block{Channels: 1, Data: []int32{1, 2, 3}})
	if lost != 1 {
		t.Error(lost)
	}
	b, missing, x, e := Read(r, 3)
	if e != api.OK || missing != 1 || !slices.Equal(b.Data, []int32{1, 2, 0}) || b.Channels != 1 || x.Read != 2 || x.Written != 2 || Fill(x) != 0 || !Valid(x) {
		t.Error(b, missing, x, e)
	}
	b, missing, x, e = Read(r, 1)
	if e != api.OK || missing != 0 || !slices.Equal(b.Data, []int32{1}) || !slices.Equal(x.Data, []int32{2}) || !Valid(x) {
		t.Error(b, missing, x, e)
	}
	b, missing, x, e = Read(r, 0)
	if e != api.OK || missing != 0 || len(b.Data) != 0 || !slices.Equal(x.Data, []int32{1, 2}) {
		t.Error(b, missing, x, e)
	}
	x.Data[0] = 9
	if r.Data[0] != 1 {
		t.Error("shared memory")
	}
	for _, c := range []struct {
		r api.Ring
		n int
		e api.Errno
	}{{invalid[1], -1, api.ErrInvalid}, {r, -1, api.ErrRange}, {r, 65537, api.ErrRange}, {r, 1<<63 - 1, api.ErrRange}, {r, 65536, api.OK}} {
		if b, missing, x, e := Read(c.r, c.n); e != c.e || e != api.OK && (b.Data != nil || b.Channels != 0 || missing != 0 || !isZero(x)) {
			t.Error(c, e)
		}
	}
}

// P17.2, P17.3: frames come out in order, each once.
func TestOrder(t *testing.T) {
	r, _ := New(2, 7)
	var in, out []int32
	next := int32(0)
	for i := range 50 {
		var b api.Block
		b.Channels = 2
		for range i % 5 {
			b.Data = append(b.Data, next, -next)
			next++
		}
		var lost, missing int
		r, lost, _ = Write(r, b)
		in = append(in, b.Data[:len(b.Data)-2*lost]...)
		b, missing, r, _ = Read(r, i%4)
		out = append(out, b.Data[:len(b.Data)-2*missing]...)
		if r.Written-r.Read > 7 || !Valid(r) {
			t.Error(r)
		}
	}
	if !slices.Equal(slices.Concat(out, r.Data), in) {
		t.Error(in, out)
	}
}

// P17.3
func TestClear(t *testing.T) {
	r := api.Ring{Channels: 1, Capacity: 3, Written: 9, Read: 7, Data: []int32{1, 2}}
	if x, e := Clear(r); e != api.OK || x.Read != 9 || x.Written != 9 || len(x.Data) != 0 || x.Capacity != 3 || !Valid(x) {
		t.Error(x, e)
	}
	if x, e := Clear(invalid[2]); e != api.ErrInvalid || !isZero(x) {
		t.Error(x, e)
	}
}
