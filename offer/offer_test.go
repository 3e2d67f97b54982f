package offer

import (
	"math/bits"
	"slices"
	"testing"

	"soundservice/api"
	"soundservice/channels"
)

func set(n ...int) api.IntSet {
	var s api.IntSet
	for i := 0; i < len(n); i += 2 {
		s.Spans = append(s.Spans, api.Span{Lo: n[i], Hi: n[i+1]})
	}
	return s
}

func comb(n, from, step int) api.IntSet {
	var s api.IntSet
	for i := range n {
		s.Spans = append(s.Spans, api.Span{Lo: from + step*i, Hi: from + step*i})
	}
	return s
}

var stereo, mono = []int{api.FL, api.FR}, []int{api.FC}

func box(kinds int, rates api.IntSet, sizes api.IntSet, maps ...[]int) api.Box {
	return api.Box{Kinds: kinds, Rates: rates, Maps: maps, Sizes: sizes}
}

func plain(rate int, m []int) api.Box { return box(4, set(rate, rate), set(64, 64), m) }

func choice(kind, rate int, m []int, size int) api.Choice {
	return api.Choice{Format: api.Format{Kind: kind, Rate: rate, Map: m}, Size: size}
}

func sameChoice(a, b api.Choice) bool {
	return a.Format.Kind == b.Format.Kind && a.Format.Rate == b.Format.Rate && channels.Same(a.Format.Map, b.Format.Map) && a.Size == b.Size
}

func sameBoxes(a, b []api.Box) bool {
	return slices.EqualFunc(a, b, func(x, y api.Box) bool {
		return x.Kinds == y.Kinds && slices.Equal(x.Rates.Spans, y.Rates.Spans) && slices.Equal(x.Sizes.Spans, y.Sizes.Spans) && slices.EqualFunc(x.Maps, y.Maps, channels.Same)
	})
}

var sixteen = func() [][]int {
	var l [][]int
	for p := 1; p <= 8; p++ {
		l = append(l, []int{p}, []int{p, p%8 + 1})
	}
	return l
}()

var good = []api.Box{
	plain(48000, stereo),
	box(254, set(1000, 768000), set(1, 1<<16), stereo, mono),
	box(2, set(1000, 1000, 768000, 768000), set(1, 1, 1<<16, 1<<16), sixteen...),
}

var bad = []api.Box{
	{},
	box(0, set(48000, 48000), set(64, 64), mono), box(1, set(48000, 48000), set(64, 64), mono), box(256, set(48000, 48000), set(64, 64), mono),
	box(4|256, set(48000, 48000), set(64, 64), mono), box(-1, set(48000, 48000), set(64, 64), mono),
	box(4, set(), set(64, 64), mono), box(4, set(999, 1000), set(64, 64), mono), box(4, set(1000, 768001), set(64, 64), mono), box(4, set(2000, 1000), set(64, 64), mono),
	box(4, set(48000, 48000), set(), mono), box(4, set(48000, 48000), set(0, 64), mono), box(4, set(48000, 48000), set(64, 1<<16+1), mono), box(4, set(48000, 48000), set(1, 2, 3, 4), mono),
	box(4, set(48000, 48000), set(64, 64)), box(4, set(48000, 48000), set(64, 64), mono, stereo, mono), box(4, set(48000, 48000), set(64, 64), []int{}), box(4, set(48000, 48000), set(64, 64), []int{1, 1}),
	box(4, set(48000, 48000), set(64, 64), append(slices.Clone(sixteen), []int{8, 7, 6})...),
}

// P10.1
func TestValid(t *testing.T) {
	if !Valid(nil) || !Valid(good) || !Valid(slices.Repeat(good[:1], 64)) || Valid(slices.Repeat(good[:1], 65)) {
		t.Error("good boxes")
	}
	for i, b := range bad {
		if Valid([]api.Box{b}) || Valid([]api.Box{good[0], b}) {
			t.Error(i)
		}
	}
}

// P10.1
func TestHas(t *testing.T) {
	l := []api.Box{box(4|16, set(44100, 48000), set(64, 64, 128, 256), stereo, mono)}
	for _, c := range []struct {
		c  api.Choice
		ok bool
	}{
		{choice(2, 44100, mono, 64), true}, {choice(4, 48000, stereo, 200), true},
		{choice(3, 44100, mono, 64), false}, {choice(2, 44099, mono, 64), false}, {choice(2, 44100, []int{api.FR, api.FL}, 64), false}, {choice(2, 44100, mono, 65), false},
		{choice(-1, 44100, mono, 64), false}, {choice(0, 44100, mono, 64), false}, {choice(66, 44100, mono, 64), false}, {choice(2, 44100, nil, 64), false},
	} {
		if Has(l, c.c) != c.ok || !Has(append(l, good[1]), c.c) && c.ok {
			t.Error(c)
		}
		if Has(append(l, bad[0]), c.c) {
			t.Error("an invalid list is empty")
		}
	}
}

// P10.1
func TestSingle(t *testing.T) {
	c := choice(api.S24BE, 768000, stereo, 1)
	if l := Single(c); !sameBoxes(l, []api.Box{box(1<<api.S24BE, set(768000, 768000), set(1, 1), stereo)}) {
		t.Error(l)
	}
	last := choice(api.S32BE, 1000, mono, 1<<16)
	if l := Single(last); !sameBoxes(l, []api.Box{box(128, set(1000, 1000), set(1<<16, 1<<16), mono)}) || !Has(l, last) || Has(l, choice(api.U8, 1000, mono, 1<<16)) {
		t.Error(l)
	}
	for _, c := range []api.Choice{{}, choice(0, 48000, mono, 1), choice(8, 48000, mono, 1), choice(-1<<63, 48000, mono, 1), choice(1, 999, mono, 1), choice(1, -5, mono, 1), choice(1, 768001, mono, 1), choice(1, 48000, nil, 1), choice(1, 48000, mono, 0), choice(1, 48000, mono, 1<<16+1)} {
		if l := Single(c); len(l) != 0 {
			t.Error(c, l)
		}
	}
}

// P10.2
func TestReduce(t *testing.T) {
	a, b := plain(48000, mono), box(4, set(44100, 48000), set(64, 64), stereo, mono)
	turned := box(4, set(44100, 48000), set(64, 64), mono, stereo)
	for _, c := range []struct{ in, out []api.Box }{
		{nil, nil},
		{[]api.Box{a, b}, []api.Box{b}},
		{[]api.Box{b, a}, []api.Box{b}},
		{[]api.Box{a, a, a}, []api.Box{a}},
		{[]api.Box{b, turned, a}, []api.Box{b}},
		{[]api.Box{turned, b}, []api.Box{turned}},
		{[]api.Box{plain(44100, mono), plain(48000, mono), plain(44100, stereo)}, []api.Box{plain(44100, mono), plain(48000, mono), plain(44100, stereo)}},
		{[]api.Box{box(6, set(48000, 48000), set(64, 64), mono), a}, []api.Box{box(6, set(48000, 48000), set(64, 64), mono)}},
		{[]api.Box{a, box(4, set(48000, 48000), set(60, 70), mono)}, []api.Box{box(4, set(48000, 48000), set(60, 70), mono)}},
	} {
		if out, e := Reduce(c.in); e != api.OK || !sameBoxes(out, c.out) {
			t.Error(c, out, e)
		}
	}
	if out, e := Reduce([]api.Box{a, bad[2]}); e != api.ErrInvalid || out != nil {
		t.Error(out, e)
	}
	l := []api.Box{plain(48000, []int{1, 2})}
	out, _ := Reduce(l)
	out[0].Maps[0][0], out[0].Rates.Spans[0].Lo, out[0].Sizes.Spans[0].Lo = 5, 5, 5
	if l[0].Maps[0][0] != 1 || l[0].Rates.Spans[0].Lo != 48000 || l[0].Sizes.Spans[0].Lo != 64 {
		t.Error("shared memory")
	}
}

// source gives numbers that are the same in each run.
type source uint64

func (s *source) below(n int) int {
	*s = *s*6364136223846793005 + 1442695040888963407
	return int(uint64(*s)>>33) % n
}

var smallMaps = [][]int{{1}, {3}, {1, 2}, {2, 1}}

// small is a box of which all choices are near 1000 and 1.
func (s *source) small() api.Box {
	sets := [][]int{{0, 0}, {1, 2}, {0, 0, 2, 2}, {3, 3}, {0, 3}}
	near := func(base int) api.IntSet {
		x := set(slices.Clone(sets[s.below(len(sets))])...)
		for i := range x.Spans {
			x.Spans[i].Lo += base
			x.Spans[i].Hi += base
		}
		return x
	}
	b := api.Box{Kinds: 2 * (1 + s.below(7)), Rates: near(1000), Sizes: near(1)}
	from := s.below(4)
	b.Maps = slices.Clone(smallMaps[from : from+1+s.below(4-from)])
	return b
}

func (s *source) list() []api.Box {
	var l []api.Box
	for range s.below(4) {
		l = append(l, s.small())
	}
	return l
}

func choices(yield func(api.Choice) bool) {
	for kind := 1; kind <= 3; kind++ {
		for rate := 1000; rate < 1004; rate++ {
			for _, m := range smallMaps {
				for size := 1; size < 5; size++ {
					if !yield(choice(kind, rate, m, size)) {
						return
					}
				}
			}
		}
	}
}

// dims are the dimensions in which two choices agree.
func dims(a, b api.Choice) int {
	d := 0
	if a.Format.Kind == b.Format.Kind {
		d |= api.DimKind
	}
	if a.Format.Rate == b.Format.Rate {
		d |= api.DimRate
	}
	if channels.Same(a.Format.Map, b.Format.Map) {
		d |= api.DimMap
	}
	if a.Size == b.Size {
		d |= api.DimSize
	}
	return d
}

// P10.2, P10.3, P10.5, P10.6: against all choices.
func TestAgainstAllChoices(t *testing.T) {
	s := source(1)
	for range 150 {
		a, b := s.list(), s.list()
		both, e := Intersect(a, b)
		reduced, f := Reduce(a)
		if e != api.OK || f != api.OK || !Valid(both) {
			t.Fatal(e, f)
		}
		want := choice(s.below(5), 998+s.below(8), smallMaps[s.below(4)], s.below(6))
		best, found := Best(a, want)
		met := 0
		for c := range choices {
			if Has(both, c) != (Has(a, c) && Has(b, c)) || Has(reduced, c) != Has(a, c) {
				t.Fatal(a, b, both, c)
			}
			if Has(both, c) {
				met++
			}
			if Has(a, c) && (!found || !Has(a, best) || Compare(want, best, c) > 0 || Compare(want, best, c) == 0 && !sameChoice(best, c)) {
				t.Fatal(a, want, best, c)
			}
		}
		if blame := Blame(a, b); (blame == 0) != (met > 0) || (len(a) == 0 || len(b) == 0) && blame != api.DimAll || blame != blameOf(a, b) {
			t.Fatal(a, b, blame, blameOf(a, b))
		}
	}
}

// blameOf tries all pairs of choices, box by box.
func blameOf(a, b []api.Box) int {
	agree := make([]bool, 16)
	for _, x := range a {
		for _, y := range b {
			for c := range choices {
				if !Has([]api.Box{x}, c) {
					continue
				}
				for d := range choices {
					if Has([]api.Box{y}, d) {
						agree[dims(c, d)] = true
					}
				}
			}
		}
	}
	best := 0
	for set := 1; set < 16; set++ {
		met := false
		for d, ok := range agree {
			met = met || ok && d&set == set
		}
		if !met && (best == 0 || bits.OnesCount(uint(set)) < bits.OnesCount(uint(best))) {
			best = set
		}
	}
	if len(a) == 0 || len(b) == 0 {
		return api.DimAll
	}
	return best
}

// P10.3
func TestIntersect(t *testing.T) {
	a := []api.Box{box(6, set(1000, 2000), set(1, 10), stereo, mono), plain(48000, mono)}
	b := []api.Box{box(4, set(1500, 3000), set(5, 20), mono, []int{5}, stereo), box(12, set(40000, 50000), set(64, 64), mono)}
	out, e := Intersect(a, b)
	want := []api.Box{box(4, set(1500, 2000), set(5, 10), stereo, mono), plain(48000, mono)}
	if e != api.OK || !sameBoxes(out, want) {
		t.Error(out, e)
	}
	if out, e := Intersect([]api.Box{bad[1]}, a); e != api.ErrInvalid || out != nil {
		t.Error(out, e)
	}
	if out, e := Intersect(a, []api.Box{bad[1]}); e != api.ErrInvalid || out != nil {
		t.Error(out, e)
	}
	if out, e := Intersect(nil, b); e != api.OK || len(out) != 0 {
		t.Error(out, e)
	}
	nine := slices.Repeat(a[1:], 9)
	eight := slices.Repeat(a[1:], 8)
	if out, e := Intersect(eight, eight); e != api.OK || !sameBoxes(out, a[1:]) {
		t.Error(out, e)
	}
	if out, e := Intersect(nine, eight); e != api.ErrLimit || out != nil {
		t.Error(out, e)
	}
}

// P10.3: intersections with too many spans.
func TestIntersectSpans(t *testing.T) {
	var l, r api.IntSet
	for i := range 33 {
		l.Spans = append(l.Spans, api.Span{Lo: 1000 + 10*i, Hi: 1007 + 10*i})
		r.Spans = append(r.Spans, api.Span{Lo: 1005 + 10*i, Hi: 1012 + 10*i})
	}
	cut := func(s api.IntSet, n int) api.IntSet { return api.IntSet{Spans: s.Spans[:n]} }
	for _, c := range []struct {
		a, b api.IntSet
		m    []int
		e    api.Errno
		n    int
	}{
		{l, r, mono, api.ErrLimit, 0},    // 33 and 32 spans
		{cut(l, 32), r, mono, api.OK, 1}, // 32 and 31
		{l, cut(r, 32), mono, api.OK, 1}, // 32 and 32
		{l, r, stereo, api.OK, 0},        // left out because of its map
		{comb(64, 1000, 2), r, mono, api.OK, 1},
		{l, set(1000, 60000), mono, api.OK, 1},
		{set(1000, 60000), r, mono, api.OK, 1},
		{comb(64, 1000, 9), l, mono, api.OK, 1},
		{comb(64, 1000, 2), l, stereo, api.OK, 0},
	} {
		for _, sizes := range []bool{false, true} {
			a, b := box(4, c.a, set(64, 64), mono), box(4, c.b, set(64, 64), c.m)
			if sizes {
				a, b = box(4, set(48000, 48000), c.a, mono), box(4, set(48000, 48000), c.b, c.m)
			}
			if out, e := Intersect([]api.Box{a}, []api.Box{b}); e != c.e || len(out) != c.n {
				t.Error(c, sizes, out, e)
			}
		}
	}
}

// P10.4
func TestCompare(t *testing.T) {
	want := choice(3, 48000, stereo, 64)
	ordered := []api.Choice{ // each is better than those after it
		want,
		choice(3, 48000, stereo, 63), choice(3, 48000, stereo, 65), choice(3, 48000, stereo, 1),
		choice(3, 48000, []int{api.FR, api.FL}, 64),
		choice(3, 48000, []int{api.FL, api.FR, api.FC}, 64), choice(3, 48000, []int{api.FL, api.FC, api.FR}, 64),
		choice(3, 48000, []int{api.FL}, 64), choice(3, 48000, []int{api.FR}, 64), choice(3, 48000, []int{api.FL, api.FC}, 64),
		choice(3, 48000, nil, 64), choice(3, 48000, []int{api.FC}, 64), choice(3, 48000, []int{api.LF}, 64),
		choice(3, 47999, stereo, 64), choice(3, 48001, stereo, 64), choice(3, -1<<63, stereo, 64),
		choice(1<<62, 48000, stereo, 64), choice(7, 48000, stereo, 64), choice(2, 48000, stereo, 64), choice(-9, 48000, stereo, 64),
	}
	for i, a := range ordered {
		for k, b := range ordered {
			if got := Compare(want, a, b); (got < 0) != (i < k) || (got > 0) != (i > k) || got < -1 || got > 1 {
				t.Error(a, b, got)
			}
		}
	}
	low, high := choice(1, 1<<63-1, mono, -1<<63), choice(1, -1<<63, mono, 1<<63-1)
	if Compare(choice(1, -1<<63, mono, 0), low, high) != 1 || Compare(choice(1, 1<<63-1, mono, 0), low, high) != -1 || Compare(choice(1, 0, mono, 0), low, high) != -1 {
		t.Error("distances of all ints")
	}
	if Compare(choice(1, 5, mono, -1), choice(1, 5, mono, -1<<63), choice(1, 5, mono, 1<<63-1)) != -1 {
		t.Error("distances of sizes")
	}
	if Compare(api.Choice{}, choice(1, 1, nil, 1), choice(1, 1, []int{}, 1)) != 0 {
		t.Error("nil and empty maps")
	}
}

// P10.5
func TestBest(t *testing.T) {
	l := []api.Box{box(4|16, set(44100, 44100, 96000, 96000), set(64, 100), mono, stereo), box(8, set(8000, 48000), set(1, 1), mono)}
	for _, c := range []struct{ want, got api.Choice }{
		{choice(4, 96000, stereo, 70), choice(4, 96000, stereo, 70)},
		{choice(3, 50000, stereo, 70), choice(3, 48000, mono, 1)},
		{choice(7, 70050, stereo, 70), choice(4, 44100, stereo, 70)},
		{choice(2, 70051, []int{api.FR}, 1000), choice(2, 96000, stereo, 100)},
		{choice(2, -1<<63, []int{api.SL}, -1<<63), choice(2, 44100, mono, 64)},
	} {
		if got, ok := Best(l, c.want); !ok || !sameChoice(got, c.got) {
			t.Error(c, got, ok)
		}
	}
	for kind := api.U8; kind <= api.S32BE; kind++ {
		one := []api.Box{box(1<<kind, set(44100, 44100), set(64, 64), mono)}
		if got, ok := Best(one, choice(3, 1, mono, 1)); !ok || got.Format.Kind != kind {
			t.Error(kind, got, ok)
		}
	}
	for _, none := range [][]api.Box{nil, {bad[0]}, {good[0], bad[3]}} {
		if got, ok := Best(none, choice(4, 96000, stereo, 70)); ok || !sameChoice(got, api.Choice{}) {
			t.Error(got, ok)
		}
	}
	got, _ := Best(l, choice(4, 96000, stereo, 70))
	got.Format.Map[0] = 8
	if l[0].Maps[1][0] != api.FL || stereo[0] != api.FL {
		t.Error("shared memory")
	}
}

// P10.6
func TestBlame(t *testing.T) {
	for _, c := range []struct {
		a, b []api.Box
		want int
	}{
		{[]api.Box{plain(44100, mono)}, []api.Box{plain(48000, mono)}, api.DimRate},
		{[]api.Box{plain(44100, mono), plain(48000, stereo)}, []api.Box{plain(44100, stereo), plain(48000, mono)}, api.DimRate | api.DimMap},
		{[]api.Box{plain(44100, mono)}, []api.Box{plain(48000, stereo)}, api.DimRate},
		{[]api.Box{plain(44100, mono)}, []api.Box{box(2, set(44100, 44100), set(65, 65), mono)}, api.DimKind},
		{[]api.Box{plain(44100, mono)}, []api.Box{box(4, set(44100, 44100), set(65, 65), stereo)}, api.DimMap},
		{[]api.Box{plain(44100, mono)}, []api.Box{plain(44100, mono)}, 0},
		{nil, []api.Box{plain(44100, mono)}, api.DimAll}, {[]api.Box{plain(44100, mono)}, nil, api.DimAll}, {nil, nil, api.DimAll},
		{[]api.Box{plain(44100, mono)}, []api.Box{plain(44100, mono), bad[0]}, api.DimAll},
	} {
		if got := Blame(c.a, c.b); got != c.want {
			t.Error(c, got)
		}
	}
}
