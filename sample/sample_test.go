package sample

import (
	"bytes"
	"slices"
	"testing"

	"soundservice/api"
)

const (
	lo = -1 << 23
	hi = 1<<23 - 1
)

// P4.1
func TestSizeAndSat(t *testing.T) {
	for k, want := range map[int]int{api.U8: 1, api.S16LE: 2, api.S16BE: 2, api.S24LE: 3, api.S24BE: 3, api.S32LE: 4, api.S32BE: 4, 0: 0, 8: 0, -1: 0, 1<<63 - 1: 0, -1 << 63: 0} {
		if Size(k) != want {
			t.Error(k, Size(k))
		}
	}
	for n, want := range map[int64]int32{0: 0, 5: 5, hi: hi, hi + 1: hi, lo: lo, lo - 1: lo, 1<<63 - 1: hi, -1 << 63: lo} {
		if Sat(n) != want {
			t.Error(n, Sat(n))
		}
	}
}

// P4.2
func TestDecode(t *testing.T) {
	for _, c := range []struct {
		kind int
		b    string
		l    []int32
	}{
		{api.U8, "\x80\x00\xff\x81", []int32{0, lo, 127 * 65536, 65536}},
		{api.S16LE, "\x02\x00\xff\xff\x00\x80\xff\x7f", []int32{512, -256, lo, 32767 * 256}},
		{api.S16BE, "\x00\x02\xff\xfe", []int32{512, -512}},
		{api.S24LE, "\x01\x02\x03\xff\xff\xff\x00\x00\x80", []int32{0x030201, -1, lo}},
		{api.S24BE, "\x01\x02\x03\x7f\xff\xff", []int32{0x010203, hi}},
		{api.S32LE, "\x80\x00\x00\x00\x7f\x00\x00\x00\xff\xff\xff\x7f\x00\x00\x00\x80", []int32{1, 0, hi, lo}},
		{api.S32BE, "\xff\xff\xff\x80\xff\xff\xff\x7f\x7f\xff\xff\x7f", []int32{0, -1, hi}},
		{api.S32LE, "", nil},
	} {
		if l, e := Decode(c.kind, []byte(c.b)); !slices.Equal(l, c.l) || e != api.OK {
			t.Error(c.kind, l, e, c.l)
		}
	}
}

// P4.2, P4.3: errors and their order.
func TestCodeErrors(t *testing.T) {
	huge := make([]byte, 4*(maxSamples+1))
	for _, c := range []struct {
		kind, size int
		e          api.Errno
	}{
		{0, len(huge), api.ErrInvalid}, {8, 0, api.ErrInvalid}, {-1, 1, api.ErrInvalid},
		{api.S16LE, 3, api.ErrShort}, {api.S24BE, 4, api.ErrShort}, {api.S32LE, 5, api.ErrShort},
		{api.S16LE, 2 * maxSamples, api.OK}, {api.S16LE, 2*maxSamples + 2, api.ErrLimit}, {api.S16LE, 2*maxSamples + 3, api.ErrLimit},
		{api.U8, maxSamples + 1, api.ErrLimit}, {api.U8, maxSamples, api.OK},
	} {
		if l, e := Decode(c.kind, huge[:c.size]); e != c.e || e != api.OK && l != nil {
			t.Error(c, len(l), e)
		}
	}
	long := make([]int32, maxSamples+1)
	long[0] = hi + 1
	for _, c := range []struct {
		kind int
		l    []int32
		e    api.Errno
	}{
		{0, long, api.ErrInvalid}, {8, nil, api.ErrInvalid}, {api.U8, long, api.ErrLimit},
		{api.U8, long[:2], api.ErrRange}, {api.S24LE, []int32{0, lo - 1}, api.ErrRange},
		{api.S32BE, []int32{1<<31 - 1}, api.ErrRange}, {api.S16LE, []int32{-1 << 31}, api.ErrRange}, {api.S16BE, long[1:], api.OK},
	} {
		if b, e := Encode(c.kind, c.l); e != c.e || e != api.OK && b != nil {
			t.Error(c.kind, len(c.l), len(b), e)
		}
	}
}

// P4.3
func TestEncode(t *testing.T) {
	for _, c := range []struct {
		kind int
		l    []int32
		b    string
	}{
		{api.U8, []int32{0, 32767, 32768, -32768, -32769, hi, lo, 127*65536 - 32768}, "\x80\x80\x81\x80\x7f\xff\x00\xff"},
		{api.S16LE, []int32{384, -129, -128, 127, 128, hi, lo}, "\x02\x00\xff\xff\x00\x00\x00\x00\x01\x00\xff\x7f\x00\x80"},
		{api.S16BE, []int32{384, -129}, "\x00\x02\xff\xff"},
		{api.S24LE, []int32{0x030201, lo}, "\x01\x02\x03\x00\x00\x80"},
		{api.S24BE, []int32{0x010203, -1}, "\x01\x02\x03\xff\xff\xff"},
		{api.S32LE, []int32{1, -1, hi}, "\x00\x01\x00\x00\x00\xff\xff\xff\x00\xff\xff\x7f"},
		{api.S32BE, []int32{lo}, "\x80\x00\x00\x00"},
	} {
		if b, e := Encode(c.kind, c.l); string(b) != c.b || e != api.OK {
			t.Errorf("%d: %x %v", c.kind, b, e)
		}
	}
}

// P4.2, P4.3: what goes through without loss.
func TestRoundTrips(t *testing.T) {
	var l []int32
	for n := lo; n <= hi; n += 4099 {
		l = append(l, int32(n))
	}
	l = append(l, hi)
	for _, k := range []int{api.S24LE, api.S24BE, api.S32LE, api.S32BE} {
		b, _ := Encode(k, l)
		if back, e := Decode(k, b); e != api.OK || !slices.Equal(back, l) {
			t.Error(k, e)
		}
	}
	var b []byte
	for i := range 6 * 65536 {
		b = append(b, byte(i), byte(i>>8), byte(i>>3))
	}
	b = b[:6*65536]
	for _, k := range []int{api.U8, api.S16LE, api.S16BE, api.S24LE, api.S24BE} {
		l, _ := Decode(k, b)
		if back, e := Encode(k, l); e != api.OK || !bytes.Equal(back, b) {
			t.Error(k, e)
		}
	}
}

// P4.4
func TestBlocks(t *testing.T) {
	for _, c := range []struct {
		b      api.Block
		ok     bool
		frames int
	}{
		{api.Block{Channels: 1}, true, 0},
		{api.Block{Channels: 2, Data: []int32{1, 2, hi, lo}}, true, 2},
		{api.Block{Channels: 8, Data: make([]int32, maxSamples)}, true, api.MaxFrames},
		{api.Block{Channels: 1, Data: make([]int32, api.MaxFrames+1)}, false, 0},
		{api.Block{Channels: 2, Data: make([]int32, 3)}, false, 0},
		{api.Block{Channels: 0}, false, 0},
		{api.Block{Channels: -1, Data: make([]int32, 1)}, false, 0},
		{api.Block{Channels: 9, Data: make([]int32, 9)}, false, 0},
		{api.Block{Channels: 1, Data: []int32{hi + 1}}, false, 0},
		{api.Block{Channels: 1, Data: []int32{lo - 1}}, false, 0},
	} {
		if Valid(c.b) != c.ok || Frames(c.b) != c.frames {
			t.Error(c.b.Channels, len(c.b.Data), Valid(c.b), Frames(c.b))
		}
	}
	for _, c := range []struct {
		channels, frames int
		e                api.Errno
	}{{1, 0, api.OK}, {8, api.MaxFrames, api.OK}, {2, 3, api.OK}, {0, 1, api.ErrRange}, {9, 1, api.ErrRange}, {1, -1, api.ErrRange}, {1, api.MaxFrames + 1, api.ErrRange}} {
		b, e := Silence(c.channels, c.frames)
		if e != c.e || e == api.OK && (!Valid(b) || b.Channels != c.channels || len(b.Data) != c.channels*c.frames) || e != api.OK && (b.Channels != 0 || b.Data != nil) {
			t.Error(c, b.Channels, len(b.Data), e)
		}
		for _, s := range b.Data {
			if s != 0 {
				t.Fatal("silence is not silent")
			}
		}
	}
}
