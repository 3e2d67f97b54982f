package recorder

import (
	"reflect"
	"slices"
	"testing"

	"soundservice/api"
)

const maxInt, minInt = 1<<63 - 1, -1 << 63

func short(stream int, at int64, quanta, frames int) api.Glitch {
	return api.Glitch{Kind: api.GlitchShort, At: at, Quanta: quanta, Stream: stream, Frames: frames}
}

func begun(limit int) api.Recorder {
	r, _ := New(limit)
	return r
}

func isZero(r api.Recorder) bool { return reflect.DeepEqual(r, api.Recorder{}) }

func invalid() []api.Recorder {
	var l []api.Recorder
	for _, change := range []func(*api.Recorder){
		func(r *api.Recorder) { r.Limit = 0 }, func(r *api.Recorder) { r.Limit = api.MaxLog + 1 }, func(r *api.Recorder) { r.Last = append(r.Last, r.Last[0], r.Last[0]) }, func(r *api.Recorder) { r.Last[0].Quanta = 0 },
		func(r *api.Recorder) { r.Counts[0] = -1 }, func(r *api.Recorder) { r.Counts[4] = api.MaxTime + 1 }, func(r *api.Recorder) { r.Frames = -1 }, func(r *api.Recorder) { r.Frames = api.MaxTime + 1 }, func(r *api.Recorder) { r.Buckets[0] = -1 }, func(r *api.Recorder) { r.Buckets[23] = api.MaxTime + 1 },
	} {
		r := begun(2)
		r.Last = []api.Glitch{short(1, 5, 1, 1)}
		r.Buckets[3] = 7
		change(&r)
		l = append(l, r)
	}
	return append(l, api.Recorder{})
}

// P38.1
func TestNewAndValid(t *testing.T) {
	for _, limit := range []int{1, api.MaxLog} {
		if r, e := New(limit); e != api.OK || !reflect.DeepEqual(r, api.Recorder{Limit: limit}) || !Valid(r) {
			t.Error(r, e)
		}
	}
	for _, limit := range []int{0, -1, api.MaxLog + 1} {
		if r, e := New(limit); e != api.ErrRange || !isZero(r) {
			t.Error(r, e)
		}
	}
	for i, r := range invalid() {
		if Valid(r) || Between(r, minInt, maxInt) != nil || Most(r, 100) != 0 {
			t.Error(i)
		}
		if x, e := Note(r, api.Glitch{}); e != api.ErrInvalid || !isZero(x) {
			t.Error(i, e)
		}
		if x, e := Measure(r, -1); e != api.ErrInvalid || !isZero(x) {
			t.Error(i, e)
		}
	}
}

// P38.2
func TestNote(t *testing.T) {
	r := begun(2)
	for _, g := range []api.Glitch{short(1, 5, 1, 10), short(1, 6, 2, 5), {Kind: api.GlitchOver, At: 6, Quanta: 1, Device: 9, Frames: 3}, short(1, 8, 1, 1)} {
		before := slices.Clone(r.Last)
		x, e := Note(r, g)
		if e != api.OK || !Valid(x) || !slices.Equal(r.Last, before) {
			t.Error(x, e)
		}
		r = x
	}
	want := api.Recorder{Limit: 2, Last: []api.Glitch{{Kind: api.GlitchOver, At: 6, Quanta: 1, Device: 9, Frames: 3}, short(1, 8, 1, 1)}, Frames: 19}
	want.Counts[api.GlitchShort], want.Counts[api.GlitchOver] = 3, 1
	if !reflect.DeepEqual(r, want) {
		t.Error(r)
	}
	one, _ := Note(begun(1), short(1, 5, 1, 10))
	one, _ = Note(one, short(1, 6, 2, 5))
	if !slices.Equal(one.Last, []api.Glitch{short(1, 5, 3, 15)}) || one.Counts[1] != 2 || one.Frames != 15 {
		t.Error(one)
	}
	edge := begun(2)
	edge.Counts[1], edge.Frames = api.MaxTime, api.MaxTime-1
	if x, e := Note(edge, short(1, 5, 1, api.MaxTime)); e != api.OK || x.Counts[1] != api.MaxTime || x.Frames != api.MaxTime {
		t.Error(x, e)
	}
	if x, e := Note(edge, short(0, 5, 1, 1)); e != api.ErrRange || !isZero(x) {
		t.Error(x, e)
	}
}

// P38.3
func TestMeasure(t *testing.T) {
	for latency, k := range map[int]int{0: 0, 1: 1, 2: 2, 3: 2, 4: 3, 255: 8, 256: 9, 1<<22 - 1: 22, 1 << 22: 23, 1 << 23: 23, maxInt: 23} {
		r, e := Measure(begun(5), latency)
		want := begun(5)
		want.Buckets[k] = 1
		if e != api.OK || !reflect.DeepEqual(r, want) {
			t.Error(latency, r, e)
		}
	}
	full := begun(5)
	full.Last = []api.Glitch{short(1, 5, 1, 1)}
	x, _ := Measure(full, 9)
	x.Last[0].Frames = 99
	if full.Last[0].Frames != 1 {
		t.Error("shared memory")
	}
	edge := begun(5)
	edge.Buckets[0] = api.MaxTime
	if r, e := Measure(edge, 0); e != api.OK || r.Buckets[0] != api.MaxTime {
		t.Error(r, e)
	}
	for _, latency := range []int{-1, minInt} {
		if r, e := Measure(edge, latency); e != api.ErrRange || !isZero(r) {
			t.Error(r, e)
		}
	}
}

// P38.4
func TestBetween(t *testing.T) {
	r := begun(9)
	r.Last = []api.Glitch{short(1, 5, 3, 1), short(2, 6, 1, 1), short(3, 9, 1, 1)}
	for _, c := range []struct {
		from, to int64
		n        []int
	}{{0, 4, nil}, {0, 5, []int{1}}, {7, 7, []int{1}}, {6, 6, []int{1, 2}}, {8, 8, nil}, {7, 9, []int{1, 3}}, {minInt, maxInt, []int{1, 2, 3}}, {9, 5, nil}, {7, 6, []int{1}}} {
		var got []int
		for _, g := range Between(r, c.from, c.to) {
			got = append(got, g.Stream)
		}
		if !slices.Equal(got, c.n) {
			t.Error(c, got)
		}
	}
	Between(r, 5, 5)[0].Frames = 99
	if r.Last[0].Frames != 1 {
		t.Error("shared memory")
	}
}

// P38.4
func TestMost(t *testing.T) {
	r := begun(1)
	if Most(r, 50) != 0 {
		t.Error("nothing was measured")
	}
	if one, _ := Measure(r, 5); Most(one, 100) != 7 || Most(one, 1) != 7 || Most(one, 0) != 0 {
		t.Error("one latency")
	}
	for _, latency := range []int{100, 200, 1000} {
		r, _ = Measure(r, latency)
	}
	for percent, want := range map[int]int{0: 0, 1: 127, 33: 127, 34: 255, 50: 255, 66: 255, 67: 1023, 100: 1023, -1: 0, 101: 0, maxInt: 0} {
		if got := Most(r, percent); got != want {
			t.Error(percent, got)
		}
	}
	r, _ = Measure(r, maxInt)
	if Most(r, 100) != 1<<23-1 {
		t.Error(Most(r, 100))
	}
}
