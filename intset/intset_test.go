package intset

import (
	"slices"
	"testing"

	"soundservice/api"
)

const top = 1<<31 - 1

func set(n ...int) api.IntSet {
	var s api.IntSet
	for i := 0; i < len(n); i += 2 {
		s.Spans = append(s.Spans, api.Span{Lo: n[i], Hi: n[i+1]})
	}
	return s
}

func same(a, b api.IntSet) bool { return slices.Equal(a.Spans, b.Spans) }

// many has some spans of one integer each, with gaps.
func many(n, from int) api.IntSet {
	var s api.IntSet
	for i := range n {
		s.Spans = append(s.Spans, api.Span{Lo: from + 2*i, Hi: from + 2*i})
	}
	return s
}

// P9.1
func TestMake(t *testing.T) {
	for _, c := range []struct {
		in, out api.IntSet
		e       api.Errno
	}{
		{set(), set(), api.OK},
		{set(5, 9, 1, 4, 20, 20), set(1, 9, 20, 20), api.OK},
		{set(1, 10, 2, 3, 11, 11, 13, 14), set(1, 11, 13, 14), api.OK},
		{set(0, top, 4, 4), set(0, top), api.OK},
		{set(top, top, top-1, top-1, 0, 0), set(0, 0, top-1, top), api.OK},
		{set(3, 2), set(), api.ErrRange}, {set(-1, 2), set(), api.ErrRange}, {set(0, top+1), set(), api.ErrRange},
		{set(1, 1, -1<<63, 1<<63-1), set(), api.ErrRange},
		{many(64, 7), many(64, 7), api.OK},
		{many(65, 7), set(), api.ErrLimit},
		{api.IntSet{Spans: append(many(65, 7).Spans, api.Span{Lo: 5, Hi: 4})}, set(), api.ErrRange},
		{api.IntSet{Spans: append(many(100, 7).Spans, api.Span{Lo: 5, Hi: 400})}, set(5, 400), api.OK},
	} {
		if s, e := Make(c.in.Spans); !same(s, c.out) || e != c.e {
			t.Error(c, s, e)
		}
	}
	l := set(9, 9, 1, 1)
	Make(l.Spans)
	if !same(l, set(9, 9, 1, 1)) {
		t.Error("the argument was sorted")
	}
}

var invalid = []api.IntSet{set(2, 1), set(-1, 0), set(0, top+1), set(1, 2, 3, 4), set(1, 5, 5, 6), set(5, 6, 1, 2), many(65, 0)}

// P9.1
func TestValidAndHas(t *testing.T) {
	for _, s := range []api.IntSet{set(), set(0, 0), set(0, top), set(1, 2, 4, 5), many(64, 0)} {
		if !Valid(s) {
			t.Error(s)
		}
	}
	for _, s := range invalid {
		if Valid(s) || Has(s, s.Spans[0].Lo) || Has(s, s.Spans[0].Hi) {
			t.Error(s)
		}
	}
	s := set(1, 2, 5, 5)
	for n := -1; n < 8; n++ {
		if Has(s, n) != (n == 1 || n == 2 || n == 5) {
			t.Error(n)
		}
	}
}

// P9.2, P9.3: every set of integers below 8 against every other one.
func TestAgainstBits(t *testing.T) {
	sets := make([]api.IntSet, 256)
	for bits := range sets {
		var l []api.Span
		for n := range 8 {
			if bits>>n&1 == 1 {
				l = append(l, api.Span{Lo: n, Hi: n})
			}
		}
		sets[bits], _ = Make(l)
	}
	for a := range sets {
		for b := range sets {
			if x := Intersect(sets[a], sets[b]); !same(x, sets[a&b]) || !Valid(x) {
				t.Fatal(a, b, x)
			}
			if x, e := Union(sets[a], sets[b]); !same(x, sets[a|b]) || e != api.OK {
				t.Fatal(a, b, x, e)
			}
			if Inside(sets[a], sets[b]) != (a&^b == 0) {
				t.Fatal(a, b)
			}
		}
	}
}

// P9.2
func TestLimits(t *testing.T) {
	a := many(64, 0)                                      // the even numbers from 0 to 126
	b := set(0, 0, 2, 200)                                // all of them
	c := many(63, 1)                                      // odd ones
	c.Spans = append(c.Spans, api.Span{Lo: 127, Hi: 300}) // and others
	wide := set(1, 1000)                                  // over all
	if x := Intersect(a, b); !same(x, a) {
		t.Error(x)
	}
	var l, r api.IntSet // l and r overlap in 100 spans
	for i := range 50 {
		l.Spans = append(l.Spans, api.Span{Lo: 10 * i, Hi: 10*i + 7})
		r.Spans = append(r.Spans, api.Span{Lo: 10*i + 5, Hi: 10*i + 12})
	}
	x := Intersect(l, r)
	if len(x.Spans) != 64 || x.Spans[0] != (api.Span{Lo: 5, Hi: 7}) || x.Spans[1] != (api.Span{Lo: 10, Hi: 12}) || !Valid(x) {
		t.Error(x)
	}
	if x, e := Union(a, many(1, 1000)); e != api.ErrLimit || x.Spans != nil {
		t.Error(x, e)
	}
	if x, e := Union(a, c); e != api.OK || !same(x, set(0, 300)) {
		t.Error(x, e)
	}
	if x, e := Union(a, wide); e != api.OK || !same(x, set(0, 1000)) {
		t.Error(x, e)
	}
}

// P9.2, P9.3: what is not valid counts as empty.
func TestInvalid(t *testing.T) {
	s := set(0, 10)
	for _, w := range invalid {
		if len(Intersect(w, s).Spans)+len(Intersect(s, w).Spans) != 0 {
			t.Error(w)
		}
		if x, e := Union(w, s); e != api.OK || !same(x, s) {
			t.Error(w, x, e)
		}
		if !Inside(w, s) || !Inside(w, set()) || Inside(s, w) {
			t.Error(w)
		}
		if n, ok := Nearest(w, 1); n != 0 || ok {
			t.Error(w, n, ok)
		}
	}
}

// P9.3
func TestNearest(t *testing.T) {
	s := set(1, 9, 20, 20)
	for n, want := range map[int]int{-1 << 63: 1, 0: 1, 1: 1, 5: 5, 9: 9, 14: 9, 15: 20, 20: 20, 1<<63 - 1: 20} {
		if got, ok := Nearest(s, n); got != want || !ok {
			t.Error(n, got, ok)
		}
	}
	if got, ok := Nearest(set(0, 0, 10, 10), 5); got != 0 || !ok {
		t.Error("the lesser one of two", got)
	}
	if got, ok := Nearest(set(), 5); got != 0 || ok {
		t.Error(got, ok)
	}
}

// P9.2: results share no memory with arguments.
func TestSharesNothing(t *testing.T) {
	a := set(1, 2, 5, 6)
	u, _ := Union(a, set())
	i := Intersect(a, a)
	u.Spans[0].Lo, i.Spans[0].Lo = 0, 0
	if a.Spans[0].Lo != 1 {
		t.Error("shared memory")
	}
}
