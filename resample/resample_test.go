package resample

import (
	"math/big"
	"slices"
	"testing"

	"soundservice/api"
	"soundservice/phase"
)

const (
	lo     = -1 << 23
	hi     = 1<<23 - 1
	maxInt = 1<<63 - 1
	minInt = -1 << 63
)

func rat(num, den int64) api.Ratio { return api.Ratio{Num: num, Den: den} }

func mono(l ...int32) api.Block { return api.Block{Channels: 1, Data: l} }

func begun(t *testing.T, channels int, base api.Ratio) api.Resampler {
	r, e := New(channels, base)
	if e != api.OK {
		t.Fatal(e)
	}
	return r
}

func sameState(a, b api.Resampler) bool {
	return a.Channels == b.Channels && a.Phase == b.Phase && slices.Equal(a.Rest, b.Rest)
}

func isZero(b api.Block, r api.Resampler) bool {
	return b.Channels == 0 && b.Data == nil && sameState(r, api.Resampler{}) && r.Rest == nil
}

var invalid = []api.Resampler{
	{}, {Channels: 1}, {Channels: 0, Phase: api.Phase{Base: rat(1, 1)}}, {Channels: 9, Phase: api.Phase{Base: rat(1, 1)}},
	{Channels: 2, Phase: api.Phase{Base: rat(1, 1)}, Rest: make([]int32, 3)}, {Channels: 1, Phase: api.Phase{Base: rat(2, 2)}},
	{Channels: 1, Phase: api.Phase{Base: rat(1, 1)}, Rest: []int32{hi + 1}}, {Channels: 1, Phase: api.Phase{Base: rat(1, 1)}, Rest: make([]int32, 65537)},
}

// P15.1
func TestValidNewWaiting(t *testing.T) {
	r := begun(t, 2, rat(147, 160))
	if !Valid(r) || Waiting(r) != 0 || r.Channels != 2 || r.Phase != (api.Phase{Base: rat(147, 160)}) {
		t.Error(r)
	}
	r.Rest = []int32{1, 2, 3, 4}
	if !Valid(r) || Waiting(r) != 2 {
		t.Error(r)
	}
	full := api.Resampler{Channels: 8, Phase: api.Phase{Base: rat(1, 1)}, Rest: make([]int32, 8*65536)}
	if !Valid(full) || Waiting(full) != 65536 {
		t.Error("a full one")
	}
	for i, r := range invalid {
		if Valid(r) || Waiting(r) != 0 {
			t.Error(i)
		}
	}
	for _, c := range []struct {
		channels int
		base     api.Ratio
	}{{0, rat(1, 1)}, {9, rat(1, 1)}, {-1, rat(1, 1)}, {1, rat(2, 2)}, {1, rat(768001, 1)}, {1, api.Ratio{}}} {
		if r, e := New(c.channels, c.base); e != api.ErrInvalid || !isZero(api.Block{}, r) {
			t.Error(c, r, e)
		}
	}
}

// P15.2
func TestFeed(t *testing.T) {
	r := begun(t, 2, rat(1, 1))
	r.Rest = append(make([]int32, 0, 10), 1, 2)
	x, e := Feed(r, api.Block{Channels: 2, Data: []int32{3, 4}})
	y, f := Feed(r, api.Block{Channels: 2, Data: []int32{5, 6}})
	if e != api.OK || f != api.OK || !slices.Equal(x.Rest, []int32{1, 2, 3, 4}) || !slices.Equal(y.Rest, []int32{1, 2, 5, 6}) || x.Phase != r.Phase {
		t.Error(x, y)
	}
	full := r
	full.Rest = make([]int32, 2*65536)
	for _, c := range []struct {
		r api.Resampler
		b api.Block
		e api.Errno
	}{
		{invalid[0], mono(), api.ErrInvalid}, {r, api.Block{}, api.ErrInvalid}, {r, mono(hi + 1), api.ErrInvalid}, {r, mono(), api.ErrMismatch},
		{full, mono(1), api.ErrMismatch}, {full, api.Block{Channels: 2, Data: []int32{1, 2}}, api.ErrLimit}, {full, api.Block{Channels: 2}, api.OK},
	} {
		if x, e := Feed(c.r, c.b); e != c.e || e != api.OK && !isZero(api.Block{}, x) {
			t.Error(e, c.e)
		}
		if b, x, e := Convert(c.r, c.b); c.e != api.OK && (e != c.e || !isZero(b, x)) {
			t.Error(e, c.e)
		}
	}
}

// expected is the output frame at the position of an index, one channel, the last frame going on.
func expected(r api.Resampler, i int) int32 {
	parts := r.Phase.Base.Den * 65536
	x := r.Phase.Frac + int64(i)*r.Phase.Base.Num*int64(65536+r.Phase.Adjust)
	k, f := int(x/parts), x%parts
	at := func(k int) *big.Int { return big.NewInt(int64(r.Rest[min(k, len(r.Rest)-1)])) }
	sum := new(big.Int).Mul(at(k), big.NewInt(parts-f))
	sum.Add(sum, new(big.Int).Mul(at(k+1), big.NewInt(f)))
	sum.Add(sum, big.NewInt(parts/2))
	return int32(sum.Div(sum, big.NewInt(parts)).Int64())
}

func noise(n int) []int32 {
	var l []int32
	for i := range n {
		l = append(l, int32((i*7919+13)*104729%(2*hi))-hi)
	}
	return append(l, hi, lo, hi, lo, lo, 0, -1, 1)
}

var phases = []api.Phase{
	{Base: rat(1, 1)}, {Base: rat(1, 2)}, {Base: rat(2, 1), Adjust: 7, Frac: 11}, {Base: rat(147, 160), Adjust: -4096, Pos: 99, Frac: 160*65536 - 1},
	{Base: rat(160, 147), Adjust: 4096, Frac: 1}, {Base: rat(17, 1)}, {Base: rat(1, 768000), Adjust: 1},
}

// P15.3
func TestTake(t *testing.T) {
	for _, p := range phases {
		r := api.Resampler{Channels: 1, Phase: p, Rest: noise(60)}
		most, _ := phase.Make(p, int64(len(r.Rest)))
		for _, n := range []int{0, 1, 2, most / 2, min(most, 500)} {
			need, _ := phase.Need(p, n)
			b, after, e := Take(r, n)
			if e != api.OK || len(b.Data) != n || b.Channels != 1 {
				t.Fatal(p, n, e)
			}
			for i, s := range b.Data {
				if s != expected(r, i) {
					t.Fatal(p, i, s, expected(r, i))
				}
			}
			next, _ := phase.Advance(p, n)
			if after.Phase != next || !slices.Equal(after.Rest, r.Rest[next.Pos-p.Pos:]) {
				t.Error(p, n, after)
			}
			if n > 0 && need > 0 {
				short := r
				short.Rest = r.Rest[:need-1]
				if b, x, e := Take(short, n); e != api.ErrShort || !isZero(b, x) {
					t.Error(p, n, e)
				}
			}
		}
	}
}

// P15.3: channels are kept apart.
func TestTakeChannels(t *testing.T) {
	r := begun(t, 2, rat(1, 2))
	r.Rest = []int32{0, 100, 10, 50, 20, 0}
	b, after, e := Take(r, 3)
	if e != api.OK || b.Channels != 2 || !slices.Equal(b.Data, []int32{0, 100, 5, 75, 10, 50}) || !slices.Equal(after.Rest, []int32{10, 50, 20, 0}) {
		t.Error(b, after, e)
	}
	after.Rest[0] = 9
	if r.Rest[2] != 10 {
		t.Error("shared memory")
	}
}

// P15.3, P15.5: errors and their order.
func TestErrors(t *testing.T) {
	good := begun(t, 1, rat(1, 1))
	far := api.Resampler{Channels: 1, Phase: api.Phase{Base: rat(768000, 1), Pos: 1 << 50, Frac: 65535}, Rest: []int32{1, 2}}
	near := api.Resampler{Channels: 1, Phase: api.Phase{Base: rat(1, 1), Pos: 1 << 50}, Rest: []int32{1, 2, 3}}
	for _, c := range []struct {
		r            api.Resampler
		n            int
		take, finish api.Errno
	}{
		{invalid[0], -1, api.ErrInvalid, api.ErrInvalid}, {invalid[6], 0, api.ErrInvalid, api.ErrInvalid},
		{good, -1, api.ErrRange, api.ErrRange}, {good, 65537, api.ErrRange, api.ErrRange}, {good, maxInt, api.ErrRange, api.ErrRange}, {good, minInt, api.ErrRange, api.ErrRange},
		{good, 1, api.ErrShort, api.OK}, {far, 1, api.ErrShort, api.ErrRange}, {near, 2, api.ErrRange, api.ErrRange}, {near, 0, api.OK, api.OK},
	} {
		if b, x, e := Take(c.r, c.n); e != c.take || e != api.OK && !isZero(b, x) {
			t.Error(c, e)
		}
		if b, x, e := Finish(c.r, c.n); e != c.finish || e != api.OK && !isZero(b, x) {
			t.Error(c, e)
		}
	}
}

// P15.4
func TestConvert(t *testing.T) {
	r := begun(t, 1, rat(1, 2))
	b, after, e := Convert(r, mono(0, 10, 20))
	if e != api.OK || !slices.Equal(b.Data, []int32{0, 5, 10, 15}) || !slices.Equal(after.Rest, []int32{20}) {
		t.Error(b, after, e)
	}
	b, _, e = Finish(after, 9)
	if e != api.OK || !slices.Equal(b.Data, []int32{20, 20}) {
		t.Error(b, e)
	}
	for _, p := range phases {
		r := api.Resampler{Channels: 1, Phase: p}
		in := noise(80)
		whole, end, e := Convert(r, mono(in...))
		if e != api.OK {
			t.Fatal(e)
		}
		if n, _ := phase.Make(p, int64(len(in))); len(whole.Data) != n {
			t.Error(p, n, len(whole.Data))
		}
		if len(whole.Data) == api.MaxFrames {
			continue
		}
		for _, cut := range []int{1, 7, 40} {
			var out []int32
			state := r
			for at := 0; at < len(in); at += cut {
				b, next, e := Convert(state, mono(in[at:min(at+cut, len(in))]...))
				if e != api.OK {
					t.Fatal(e)
				}
				out, state = append(out, b.Data...), next
			}
			if !slices.Equal(out, whole.Data) || !sameState(state, end) {
				t.Error(p, cut)
			}
		}
	}
	many, _, e := Convert(begun(t, 1, rat(1, 768000)), mono(0, 768000))
	if e != api.OK || len(many.Data) != api.MaxFrames || many.Data[65535] != 65535 {
		t.Error(len(many.Data), e)
	}
}

// P15.5
func TestFinish(t *testing.T) {
	for _, p := range phases[:6] {
		r := api.Resampler{Channels: 1, Phase: p, Rest: noise(30)}
		all := 0 // output frames that begin before the end
		for {
			x := p.Frac + int64(all)*p.Base.Num*int64(65536+p.Adjust)
			if x >= int64(len(r.Rest))*p.Base.Den*65536 {
				break
			}
			all++
		}
		for _, n := range []int{0, 1, all - 1, all, all + 1, 65536} {
			want := max(min(n, all), 0)
			b, after, e := Finish(r, max(n, 0))
			if e != api.OK || len(b.Data) != want {
				t.Fatal(p, n, len(b.Data), e)
			}
			for i, s := range b.Data {
				if s != expected(r, i) {
					t.Fatal(p, i)
				}
			}
			next, _ := phase.Advance(p, want)
			passed := min(int(next.Pos-p.Pos), len(r.Rest))
			if after.Phase != next || !slices.Equal(after.Rest, r.Rest[passed:]) || n >= all && len(after.Rest) != 0 {
				t.Error(p, n, after)
			}
		}
	}
	wide := api.Resampler{Channels: 2, Phase: api.Phase{Base: rat(1, 2)}, Rest: []int32{0, 100, 10, 50}}
	if b, after, e := Finish(wide, 9); e != api.OK || !slices.Equal(b.Data, []int32{0, 100, 5, 75, 10, 50, 10, 50}) || len(after.Rest) != 0 {
		t.Error(b, after, e)
	}
	late := api.Resampler{Channels: 1, Phase: api.Phase{Base: rat(1, 1), Frac: 65535}, Rest: []int32{0, 65536, 0}}
	if b, _, e := Finish(late, 9); e != api.OK || !slices.Equal(b.Data, []int32{65535, 1, 0}) {
		t.Error(b, e)
	}
	if b, after, e := Finish(begun(t, 3, rat(1, 1)), 5); e != api.OK || b.Channels != 3 || len(b.Data) != 0 || len(after.Rest) != 0 {
		t.Error(b, after, e)
	}
}
