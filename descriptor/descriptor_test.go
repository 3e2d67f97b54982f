package descriptor

import (
	"bytes"
	"reflect"
	"strings"
	"testing"

	"soundservice/api"
	"soundservice/wire"
)

func example() api.Descriptor {
	return api.Descriptor{ID: 1<<63 + 5, Name: "usb-Box.1", Direction: api.Capture, Domain: 3, Latency: 480, Drift: 7, Jitter: 2, Boxes: []api.Box{
		{Kinds: 4 | 16, Rates: api.IntSet{Spans: []api.Span{{Lo: 44100, Hi: 44100}, {Lo: 48000, Hi: 96000}}}, Maps: [][]int{{1, 2}, {3}}, Sizes: api.IntSet{Spans: []api.Span{{Lo: 64, Hi: 4096}}}},
		{Kinds: 128, Rates: api.IntSet{Spans: []api.Span{{Lo: 1000, Hi: 768000}}}, Maps: [][]int{{8}}, Sizes: api.IntSet{Spans: []api.Span{{Lo: 1, Hi: 65536}}}},
	}}
}

func changed(f func(*api.Descriptor)) api.Descriptor {
	d := example()
	f(&d)
	return d
}

// invalid are descriptors that have bytes, but are not valid.
func invalid() []api.Descriptor {
	return []api.Descriptor{
		changed(func(d *api.Descriptor) { d.Name = "" }),
		changed(func(d *api.Descriptor) { d.Name = "a b" }),
		changed(func(d *api.Descriptor) { d.Direction = 0 }),
		changed(func(d *api.Descriptor) { d.Direction = 3 }),
		changed(func(d *api.Descriptor) { d.Latency = 1<<20 + 1 }),
		changed(func(d *api.Descriptor) { d.Drift = api.MaxAdjust/2 + 1 }),
		changed(func(d *api.Descriptor) { d.Jitter = 4097 }),
		changed(func(d *api.Descriptor) { d.Boxes = nil }),
		changed(func(d *api.Descriptor) {
			for len(d.Boxes) <= api.MaxOffer {
				d.Boxes = append(d.Boxes, d.Boxes[0])
			}
		}),
		changed(func(d *api.Descriptor) { d.Boxes[1].Kinds = 256 }),
		changed(func(d *api.Descriptor) { d.Boxes[0].Rates.Spans[0].Lo = 1<<32 - 1 }),
		changed(func(d *api.Descriptor) { d.Boxes[0].Maps[0] = nil }),
		changed(func(d *api.Descriptor) { d.Boxes[0].Sizes.Spans = nil }),
	}
}

// P11.1
func TestValid(t *testing.T) {
	for i, d := range []api.Descriptor{
		example(),
		changed(func(d *api.Descriptor) { d.ID = 0 }),
		changed(func(d *api.Descriptor) { d.Domain, d.Latency, d.Drift, d.Jitter = 0, 0, 0, 0 }),
		changed(func(d *api.Descriptor) { d.Boxes = d.Boxes[:1] }),
		changed(func(d *api.Descriptor) { d.Name = strings.Repeat("n", api.MaxName) }),
		changed(func(d *api.Descriptor) {
			d.Direction, d.Domain, d.Latency, d.Drift, d.Jitter = api.Playback, 65535, 1<<20, api.MaxAdjust/2, 4096
		}),
		changed(func(d *api.Descriptor) {
			for len(d.Boxes) < api.MaxOffer {
				d.Boxes = append(d.Boxes, d.Boxes[0])
			}
		}),
	} {
		if !Valid(d) {
			t.Error(i)
		}
	}
	for i, d := range append(invalid(),
		changed(func(d *api.Descriptor) { d.Name = strings.Repeat("n", api.MaxName+1) }),
		changed(func(d *api.Descriptor) { d.Domain = -1 }),
		changed(func(d *api.Descriptor) { d.Domain = 65536 }),
		changed(func(d *api.Descriptor) { d.Latency = -1 }),
		changed(func(d *api.Descriptor) { d.Drift = -1 }),
		changed(func(d *api.Descriptor) { d.Jitter = -1 }),
		changed(func(d *api.Descriptor) { d.Boxes[0].Rates.Spans[0].Lo = -1 }),
		api.Descriptor{},
	) {
		if Valid(d) {
			t.Error(i)
		}
		if b, e := Encode(d); e != api.ErrInvalid || b != nil {
			t.Error(i, b, e)
		}
	}
}

func hex(n uint64, size int) string {
	var b []byte
	for range size {
		b = append(b, byte(n))
		n >>= 8
	}
	return string(b)
}

func span(lo, hi uint64) string { return hex(lo, 4) + hex(hi, 4) }

// P11.2
func TestEncode(t *testing.T) {
	want := "SND1" + hex(1<<63+5, 8) + "\x09usb-Box.1" + hex(2, 2) + hex(3, 2) + hex(480, 4) + hex(7, 2) + hex(2, 2) + hex(2, 2) +
		hex(20, 2) + hex(2, 2) + span(44100, 44100) + span(48000, 96000) + hex(2, 2) + hex(2, 2) + hex(1, 2) + hex(2, 2) + hex(1, 2) + hex(3, 2) + hex(1, 2) + span(64, 4096) +
		hex(128, 2) + hex(1, 2) + span(1000, 768000) + hex(1, 2) + hex(1, 2) + hex(8, 2) + hex(1, 2) + span(1, 65536)
	want += hex(uint64(wire.Sum([]byte(want))), 4)
	b, e := Encode(example())
	if e != api.OK || string(b) != want {
		t.Errorf("%x %v\n%x", b, e, want)
	}
}

// P11.3
func TestDecode(t *testing.T) {
	b, _ := Encode(example())
	if d, e := Decode(b); e != api.OK || !reflect.DeepEqual(d, example()) {
		t.Error(d, e)
	}
	for i := range b {
		for _, bit := range []byte{1, 16, 128} {
			c := bytes.Clone(b)
			c[i] ^= bit
			if d, e := Decode(c); e != api.ErrChecksum || !reflect.DeepEqual(d, api.Descriptor{}) {
				t.Error(i, d, e)
			}
		}
	}
	for n := range len(b) {
		want := api.ErrChecksum
		if n < 8 {
			want = api.ErrShort
		}
		if _, e := Decode(b[:n]); e != want {
			t.Error(n, e)
		}
	}
}

func summed(b []byte) []byte { return wire.Put32(b, wire.Sum(b)) }

// P11.3: errors and their order.
func TestDecodeErrors(t *testing.T) {
	b, _ := Encode(example())
	body := b[:len(b)-4]
	for n := range body { // each number and each list ends too soon
		if d, e := Decode(summed(body[:n])); n >= 4 && e != api.ErrSyntax || n < 4 && e != api.ErrShort || !reflect.DeepEqual(d, api.Descriptor{}) {
			t.Error(n, d, e)
		}
	}
	if _, e := Decode(summed(append(bytes.Clone(body), 0))); e != api.ErrSyntax {
		t.Error("bytes are left", e)
	}
	for i := range 4 {
		c := bytes.Clone(body)
		c[i]++
		if _, e := Decode(summed(c)); e != api.ErrSyntax {
			t.Error("SND1", e)
		}
	}
	long := bytes.Clone(body)
	long[12] = api.MaxName + 1
	if _, e := Decode(summed(append(long, make([]byte, 200)...))); e != api.ErrSyntax {
		t.Error("a long name", e)
	}
	if _, e := Decode(nil); e != api.ErrShort {
		t.Error(e)
	}
	if _, e := Decode(make([]byte, 8)); e != api.ErrChecksum {
		t.Error(e)
	}
	for i, d := range invalid() { // of the right form, for any numbers
		w := &writer{bytes: wire.Put64([]byte(magic), d.ID)}
		w.text(d.Name)
		w.put16(d.Direction)
		w.put16(d.Domain)
		w.put32(d.Latency)
		w.put16(d.Drift)
		w.put16(d.Jitter)
		w.boxes(d.Boxes)
		if x, e := Decode(summed(w.bytes)); e != api.ErrInvalid || !reflect.DeepEqual(x, api.Descriptor{}) {
			t.Error(i, x, e)
		}
		if _, e := Decode(summed(append(w.bytes, 9))); e != api.ErrSyntax {
			t.Error(i, e)
		}
	}
}
