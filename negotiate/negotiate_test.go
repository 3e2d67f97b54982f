package negotiate

import (
	"reflect"
	"slices"
	"testing"

	"soundservice/api"
	"soundservice/offer"
)

var stereo, mono = []int{1, 2}, []int{3}

func set(n ...int) api.IntSet {
	var s api.IntSet
	for i := 0; i < len(n); i += 2 {
		s.Spans = append(s.Spans, api.Span{Lo: n[i], Hi: n[i+1]})
	}
	return s
}

func box(kinds int, rates, sizes api.IntSet, maps ...[]int) api.Box {
	return api.Box{Kinds: kinds, Rates: rates, Maps: maps, Sizes: sizes}
}

func plain(rate int, m []int) api.Box { return box(4, set(rate, rate), set(64, 64), m) }

func port(convert int, boxes ...api.Box) api.Port { return api.Port{Boxes: boxes, Convert: convert} }

func choice(kind, rate int, m []int, size int) api.Choice {
	return api.Choice{Format: api.Format{Kind: kind, Rate: rate, Map: m}, Size: size}
}

var bad = box(4, set(), set(64, 64), mono)

// P12.1
func TestValid(t *testing.T) {
	p := port(0, plain(48000, mono))
	for _, c := range []struct {
		l  []api.Port
		ok bool
	}{
		{[]api.Port{p}, true}, {slices.Repeat([]api.Port{p}, 16), true}, {[]api.Port{port(15)}, true}, {[]api.Port{port(0, slices.Repeat(p.Boxes, 8)...)}, true},
		{nil, false}, {slices.Repeat([]api.Port{p}, 17), false}, {[]api.Port{p, port(-1)}, false}, {[]api.Port{port(16), p}, false},
		{[]api.Port{port(0, slices.Repeat(p.Boxes, 9)...)}, false}, {[]api.Port{p, port(0, bad)}, false},
	} {
		if Valid(c.l) != c.ok {
			t.Error(c)
		}
		if !c.ok {
			if r, f, e := Forward(c.l); e != api.ErrInvalid || r != nil || f != (api.Refusal{}) {
				t.Error(r, f, e)
			}
			if r, f, e := Choose(c.l, api.Choice{}); e != api.ErrInvalid || r != nil || f != (api.Refusal{}) {
				t.Error(r, f, e)
			}
		}
	}
}

// P12.1
func TestFits(t *testing.T) {
	wide := box(6, set(8000, 96000), set(1, 100), mono, stereo)
	for _, c := range []struct {
		convert int
		b       api.Choice
		ok      bool
	}{
		{0, choice(1, 48000, mono, 64), true},
		{0, choice(2, 48000, mono, 64), false}, {api.DimKind, choice(2, 48000, mono, 64), true},
		{0, choice(1, 48001, mono, 64), false}, {api.DimRate, choice(1, 48001, mono, 64), true},
		{0, choice(1, 48000, stereo, 64), false}, {api.DimMap, choice(1, 48000, stereo, 64), true},
		{0, choice(1, 48000, mono, 65), false}, {api.DimSize, choice(1, 48000, mono, 65), true},
		{api.DimAll, choice(2, 8000, stereo, 1), true}, {api.DimAll, choice(3, 8000, stereo, 1), false},
		{api.DimAll &^ api.DimSize, choice(2, 8000, stereo, 1), false},
	} {
		if Fits([]api.Port{port(c.convert, wide), port(0, wide)}, []api.Choice{choice(1, 48000, mono, 64), c.b}) != c.ok {
			t.Error(c)
		}
	}
	x := choice(1, 48000, mono, 64)
	if Fits(nil, nil) || Fits([]api.Port{port(0, wide)}, nil) || Fits([]api.Port{port(0, wide)}, []api.Choice{x, x}) || Fits([]api.Port{port(16, wide)}, []api.Choice{x}) || !Fits([]api.Port{port(0, wide)}, []api.Choice{x}) {
		t.Error("lengths and validity")
	}
}

// P12.2: refusals.
func TestRefusals(t *testing.T) {
	client, device := plain(44100, mono), plain(48000, mono)
	for _, c := range []struct {
		l []api.Port
		r api.Refusal
	}{
		{[]api.Port{port(0, client), port(0, device)}, api.Refusal{Port: 1, Dims: api.DimRate}},
		{[]api.Port{port(api.DimAll&^api.DimRate, client), port(0, device)}, api.Refusal{Port: 1, Dims: api.DimRate}},
		{[]api.Port{port(15), port(0, device)}, api.Refusal{Port: 0, Dims: api.DimAll}},
		{[]api.Port{port(15, client), port(0)}, api.Refusal{Port: 1, Dims: api.DimAll}},
		{[]api.Port{port(0, client), port(0, client, device), port(0, device)}, api.Refusal{Port: 2, Dims: api.DimRate}},
		{[]api.Port{port(0, plain(44100, mono), plain(48000, stereo)), port(0, plain(44100, stereo), plain(48000, mono))}, api.Refusal{Port: 1, Dims: api.DimRate | api.DimMap}},
		{[]api.Port{port(api.DimKind, client), port(0, box(2, set(44100, 44100), set(65, 65), mono))}, api.Refusal{Port: 1, Dims: api.DimSize}},
		{[]api.Port{port(0, client), port(0, box(2, set(44100, 44100), set(65, 65), mono))}, api.Refusal{Port: 1, Dims: api.DimKind}},
		{[]api.Port{port(api.DimRate, box(2, set(44100, 44100), set(1, 9), stereo), box(2, set(44100, 44100), set(10, 20), mono)), port(0, box(2, set(48000, 48000), set(15, 15), stereo), box(2, set(48000, 48000), set(5, 5), mono))}, api.Refusal{Port: 1, Dims: api.DimMap | api.DimSize}},
	} {
		if l, r, e := Forward(c.l); e != api.ErrNone || r != c.r || l != nil {
			t.Error(c, l, r, e)
		}
		if l, r, e := Choose(c.l, api.Choice{}); e != api.ErrNone || r != c.r || l != nil {
			t.Error(c, l, r, e)
		}
	}
}

// P12.2: reached boxes.
func TestForward(t *testing.T) {
	first := []api.Box{box(6, set(8000, 48000), set(1, 100), mono, stereo), plain(44100, mono), plain(96000, stereo)}
	second := []api.Box{box(4, set(44100, 192000), set(50, 64), stereo, mono), box(8, set(48000, 48000), set(64, 64), mono)}
	r, _, e := Forward([]api.Port{port(0, first...), port(0, second...)})
	want := [][]api.Box{
		{first[0], first[2]}, // the second one lies inside the first one
		{box(4, set(44100, 48000), set(50, 64), stereo, mono), plain(96000, stereo)},
	}
	if e != api.OK || !reflect.DeepEqual(r, want) {
		t.Error(r, e)
	}
	r, _, e = Forward([]api.Port{port(api.DimRate|api.DimKind, first...), port(0, second...)})
	want[1] = []api.Box{box(4, set(44100, 192000), set(50, 64), stereo, mono), box(8, set(48000, 48000), set(64, 64), mono)}
	if e != api.OK || !reflect.DeepEqual(r, want) {
		t.Error(r, e)
	}
	r[0][0].Maps[0][0], r[1][0].Maps[0][0] = 7, 7
	if first[0].Maps[0][0] != 3 || second[0].Maps[0][0] != 1 {
		t.Error("shared memory")
	}
}

// P12.2: limits.
func TestForwardLimits(t *testing.T) {
	many := func(n int) []api.Box {
		var l []api.Box
		for i := range n {
			l = append(l, plain(48000, []int{1 + i}), plain(48000, []int{1 + i, 1 + (i+1)%8}))
		}
		return l[:n]
	}
	chain := []api.Port{port(api.DimMap, many(8)...), port(api.DimMap, many(8)...), port(0, many(8)...)}
	if r, _, e := Forward(chain); e != api.OK || len(r[2]) != 8 { // 64 combinations, reduced to 8
		t.Error(r, e)
	}
	ragged := func(from int) api.IntSet { // two of these intersect in many spans
		var s api.IntSet
		for i := range 40 {
			s.Spans = append(s.Spans, api.Span{Lo: 2000 + 10*i + from, Hi: 2007 + 10*i + from})
		}
		return s
	}
	a, b := box(4, ragged(0), set(64, 64), mono), box(4, ragged(5), set(64, 64), mono)
	if r, f, e := Forward([]api.Port{port(0, a), port(0, b)}); e != api.ErrLimit || r != nil || f != (api.Refusal{}) {
		t.Error(r, f, e)
	}
	if _, _, e := Forward([]api.Port{port(api.DimRate, a), port(0, b)}); e != api.OK {
		t.Error(e)
	}
	if r, f, e := Choose([]api.Port{port(0, a), port(0, b)}, api.Choice{}); e != api.ErrLimit || r != nil || f != (api.Refusal{}) {
		t.Error(r, f, e)
	}
	// 8 boxes with 2 rates each, cut into 16 reached boxes; 8 times 16 combinations are too many.
	var halves, pieces []api.Box
	for i := range 8 {
		halves = append(halves, box(4, set(1000+100*i, 1099+100*i), set(64, 64), mono))
		pieces = append(pieces, box(4, set(1050+100*i, 1149+100*i), set(64, 64), mono))
	}
	long := []api.Port{port(0, halves...), port(api.DimRate, pieces...), port(0, halves...)}
	if _, _, e := Forward(long); e != api.ErrLimit { // 15 reached boxes, 8 * 15 combinations
		t.Error(e)
	}
	for n, want := range map[int]api.Errno{4: api.OK, 5: api.ErrLimit} { // 13 reached boxes: 52 and 65 combinations
		x := []api.Port{port(0, halves[:7]...), port(api.DimRate, pieces[:7]...), port(0, halves[:n]...)}
		if _, _, e := Forward(x); e != want {
			t.Error(n, e)
		}
	}
	if r, _, e := Forward([]api.Port{port(0, halves...), port(api.DimRate, halves...), port(0, halves...)}); e != api.OK || len(r[2]) != 8 { // 64
		t.Error(e)
	}
	long[2].Boxes = long[2].Boxes[:4]
	if _, _, e := Forward(long); e != api.OK { // 4 * 15
		t.Error(e)
	}
}

// P12.3
func TestChoose(t *testing.T) {
	client := port(api.DimRate, box(4|16, set(44100, 44100), set(1, 4096), mono, stereo))
	mixer := port(api.DimKind|api.DimMap, box(16, set(48000, 48000), set(64, 64, 128, 128), mono, stereo))
	device := port(0, box(4, set(44100, 48000), set(100, 2000), stereo))
	want := choice(2, 96000, mono, 90)
	c, r, e := Choose([]api.Port{client, mixer, device}, want)
	if e != api.OK || r != (api.Refusal{}) || !reflect.DeepEqual(c, []api.Choice{choice(4, 44100, stereo, 128), choice(4, 48000, stereo, 128), choice(2, 48000, stereo, 128)}) {
		t.Error(c, r, e)
	}
	c[0].Format.Map[0] = 9
	if c[1].Format.Map[0] != 1 || device.Boxes[0].Maps[0][0] != 1 {
		t.Error("shared memory")
	}
	one, _, e := Choose([]api.Port{device}, want)
	if e != api.OK || !reflect.DeepEqual(one, []api.Choice{choice(2, 48000, stereo, 100)}) {
		t.Error(one, e)
	}
}

// source gives numbers that are the same in each run.
type source uint64

func (s *source) below(n int) int {
	*s = *s*6364136223846793005 + 1442695040888963407
	return int(uint64(*s)>>33) % n
}

func (s *source) port() api.Port {
	p := api.Port{Convert: s.below(16)}
	for range s.below(3) + 1 {
		lo, size := 1000+s.below(3), 1+s.below(3)
		maps := [][]int{stereo, mono}[s.below(2):]
		p.Boxes = append(p.Boxes, box(2*(1+s.below(3)), set(lo, lo+s.below(2)), set(size, size+s.below(2)), maps...))
	}
	return p
}

func all(yield func(api.Choice) bool) {
	for kind := 1; kind <= 2; kind++ {
		for rate := 1000; rate < 1004; rate++ {
			for size := 1; size < 5; size++ {
				for _, m := range [][]int{stereo, mono} {
					if !yield(choice(kind, rate, m, size)) {
						return
					}
				}
			}
		}
	}
}

// reachable are the choices of each port that some fitting choices up to it end in.
func reachable(l []api.Port) [][]api.Choice {
	out := make([][]api.Choice, len(l))
	for i, p := range l {
		for c := range all {
			if !offer.Has(p.Boxes, c) {
				continue
			}
			ok := i == 0
			if i > 0 {
				for _, b := range out[i-1] {
					ok = ok || Fits([]api.Port{l[i-1], p}, []api.Choice{b, c})
				}
			}
			if ok {
				out[i] = append(out[i], c)
			}
		}
	}
	return out
}

// P12.2, P12.3: against all choices.
func TestAgainstAllChoices(t *testing.T) {
	s := source(3)
	for range 300 {
		l := []api.Port{s.port(), s.port(), s.port()}
		exact := reachable(l)
		r, refusal, e := Forward(l)
		if (e == api.OK) != (len(exact[2]) > 0) || e == api.ErrNone && (len(exact[refusal.Port]) > 0 || len(exact[refusal.Port-1]) == 0) {
			t.Fatal(l, refusal, e)
		}
		want := choice(1+s.below(2), 1000+s.below(4), mono, 1+s.below(4))
		c, _, f := Choose(l, want)
		if f != e || (e == api.OK) != Fits(l, c) {
			t.Fatal(l, c, f)
		}
		for i := range r {
			for x := range all {
				in := slices.ContainsFunc(exact[i], func(y api.Choice) bool { return reflect.DeepEqual(x, y) })
				if offer.Has(r[i], x) != in || i == 2 && in && offer.Compare(want, x, c[2]) < 0 {
					t.Fatal(l, i, x)
				}
			}
		}
	}
}
