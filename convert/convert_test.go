package convert

import (
	"bytes"
	"reflect"
	"slices"
	"testing"

	"soundservice/api"
	"soundservice/matrix"
	"soundservice/resample"
	"soundservice/sample"
)

var stereo, mono = []int{1, 2}, []int{3}

func format(kind, rate int, m []int) api.Format { return api.Format{Kind: kind, Rate: rate, Map: m} }

var cd = format(api.S16LE, 48000, stereo)

var impossible = []api.Format{{}, format(0, 48000, mono), format(8, 48000, mono), format(-1, 48000, mono), format(2, 999, mono), format(2, 768001, mono), format(2, -48000, mono), format(2, 48000, nil), format(2, 48000, []int{1, 1}), format(2, 48000, []int{9})}

// P16.1
func TestFitsAndFrameSize(t *testing.T) {
	for _, c := range []struct {
		f    api.Format
		size int
	}{{cd, 4}, {format(api.U8, 1000, mono), 1}, {format(api.S32BE, 768000, []int{1, 2, 3, 4, 5, 6, 7, 8}), 32}, {format(api.S24LE, 44100, stereo), 6}} {
		if !Fits(c.f) || FrameSize(c.f) != c.size {
			t.Error(c, FrameSize(c.f))
		}
	}
	for _, f := range impossible {
		if Fits(f) || FrameSize(f) != 0 {
			t.Error(f)
		}
	}
}

// P16.2
func TestNewAndValid(t *testing.T) {
	from, to := format(api.S16LE, 44100, stereo), format(api.S24BE, 48000, mono)
	c, e := New(from, to)
	m, _ := matrix.Default(stereo, mono)
	r, _ := resample.New(1, api.Ratio{Num: 147, Den: 160})
	if e != api.OK || !reflect.DeepEqual(c, api.Converter{From: from, To: to, Matrix: m, Resample: r}) || !Valid(c) {
		t.Error(c, e)
	}
	c.From.Map[0] = 7
	if stereo[0] != 1 {
		t.Error("shared memory")
	}
	for _, f := range impossible {
		if c, e := New(f, to); e != api.ErrInvalid || !reflect.DeepEqual(c, api.Converter{}) {
			t.Error(f, c, e)
		}
		if _, e := New(from, f); e != api.ErrInvalid {
			t.Error(f, e)
		}
	}
}

func broken() []api.Converter {
	var l []api.Converter
	for _, change := range []func(*api.Converter){
		func(c *api.Converter) { c.From.Rate = 999 },
		func(c *api.Converter) { c.From.Rate = 44100 },
		func(c *api.Converter) { c.To.Map = []int{2, 1} },
		func(c *api.Converter) { c.To.Kind = 0 },
		func(c *api.Converter) { c.Matrix.Coef[0]++ },
		func(c *api.Converter) { c.Matrix.Coef = c.Matrix.Coef[:3] },
		func(c *api.Converter) { c.Matrix = api.Matrix{} },
		func(c *api.Converter) { c.Resample.Channels = 1 },
		func(c *api.Converter) { c.Resample.Phase.Base.Num = 2 },
		func(c *api.Converter) { c.Resample.Rest = []int32{1} },
	} {
		c, _ := New(cd, cd)
		change(&c)
		l = append(l, c)
	}
	return append(l, api.Converter{})
}

// P16.2, P16.3, P16.4
func TestBroken(t *testing.T) {
	for i, c := range broken() {
		if Valid(c) {
			t.Error(i)
		}
		if b, x, e := Run(c, make([]byte, 3)); e != api.ErrInvalid || b != nil || !reflect.DeepEqual(x, api.Converter{}) {
			t.Error(i, e)
		}
		if b, e := Finish(c); e != api.ErrInvalid || b != nil {
			t.Error(i, e)
		}
	}
}

// P16.3
func TestRun(t *testing.T) {
	c, _ := New(cd, format(api.S16LE, 48000, mono))
	frame, _ := sample.Encode(api.S16LE, []int32{25600, 25600, 0, 0})
	out, after, e := Run(c, frame)
	if e != api.OK || !bytes.Equal(out, []byte{141, 0}) || !Valid(after) || resample.Waiting(after.Resample) != 1 {
		t.Error(out, after, e)
	}
	after.From.Map[0], after.Matrix.Coef[0] = 7, 7
	if !Valid(c) {
		t.Error("shared memory")
	}
	full, _ := New(cd, cd)
	full.Resample.Rest = make([]int32, 2*65536)
	for _, k := range []struct {
		c api.Converter
		n int
		e api.Errno
	}{{c, 0, api.OK}, {c, 2, api.ErrShort}, {c, 4*65536 + 2, api.ErrShort}, {c, 4*65536 + 4, api.ErrLimit}, {c, 4 * 65536, api.OK}, {full, 4, api.ErrLimit}} {
		if b, x, e := Run(k.c, make([]byte, k.n)); e != k.e || e != api.OK && (b != nil || !reflect.DeepEqual(x, api.Converter{})) {
			t.Error(k.n, e)
		}
	}
	far, _ := New(cd, cd)
	far.Resample.Phase.Pos = 1 << 50
	if _, _, e := Run(far, make([]byte, 8)); e != api.ErrRange {
		t.Error(e)
	}
	if b, e := Finish(far); e != api.OK || len(b) != 0 {
		t.Error(b, e)
	}
	far.Resample.Rest = []int32{1, 2}
	if b, e := Finish(far); e != api.ErrRange || b != nil {
		t.Error(b, e)
	}
}

// P16.3, P16.4: in pieces as at once; between equal formats nothing changes.
func TestPieces(t *testing.T) {
	var in []byte
	for i := range 1200 {
		in = append(in, byte(i*i*31+i>>3))
	}
	for _, from := range []api.Format{format(api.U8, 44100, mono), format(api.S16BE, 48000, stereo), format(api.S24LE, 96000, stereo)} {
		for _, to := range []api.Format{from, format(api.S32LE, 48000, []int{2, 1, 4}), format(api.U8, 8000, mono)} {
			c, _ := New(from, to)
			whole, end, e := Run(c, in)
			last, f := Finish(end)
			if e != api.OK || f != api.OK {
				t.Fatal(e, f)
			}
			if reflect.DeepEqual(from, to) && !bytes.Equal(slices.Concat(whole, last), in) {
				t.Error("equal formats", from)
			}
			size := 7 * FrameSize(from)
			var out []byte
			for at := 0; at < len(in); at += size {
				b, next, e := Run(c, in[at:min(at+size, len(in))])
				if e != api.OK {
					t.Fatal(e)
				}
				out, c = append(out, b...), next
			}
			if !bytes.Equal(out, whole) || !reflect.DeepEqual(c, end) {
				t.Error("pieces", from, to)
			}
		}
	}
}
