package clock

import (
	"math/big"
	"reflect"
	"slices"
	"testing"

	"soundservice/api"
)

const maxInt, minInt = int64(1<<63 - 1), int64(-1 << 63)

func rat(num, den int64) api.Ratio { return api.Ratio{Num: num, Den: den} }

// made is a clock of From, Num and Den of each segment.
func made(n ...int64) api.Clock {
	var c api.Clock
	for i := 0; i < len(n); i += 3 {
		c.Segments = append(c.Segments, api.Segment{From: n[i], Rate: rat(n[i+1], n[i+2])})
	}
	return c
}

func long(n int) api.Clock {
	var c api.Clock
	for i := range n {
		c.Segments = append(c.Segments, api.Segment{From: int64(i), Rate: rat(1, 1)})
	}
	return c
}

var example = made(0, 1, 2, 3, 1, 1)

var invalid = []api.Clock{{}, made(1, 1, 1), made(-1, 1, 1), made(0, 2, 2), made(0, 1, 1025), made(0, 1025, 1), made(0, 1<<36-1, 1), made(0, 1, 1, 0, 1, 1), made(0, 1, 1, 5, 1, 1, 5, 1, 1), made(0, 1, 1, 5, 1, 1, 4, 1, 1), made(0, 1, 1, api.MaxTime+1, 1, 1), made(0, 1, 1, 5, 0, 1), long(65)}

// P13.1
func TestValidAndNew(t *testing.T) {
	for _, c := range []api.Clock{example, made(0, 1, 1024), made(0, 1024, 1), made(0, 1<<36-1, 1<<36), made(0, 1, 1, api.MaxTime, 1, 2), long(64)} {
		if !Valid(c) {
			t.Error(c)
		}
	}
	for _, c := range invalid {
		if Valid(c) {
			t.Error(c)
		}
	}
	if c, e := New(rat(3, 7)); e != api.OK || !reflect.DeepEqual(c, made(0, 3, 7)) {
		t.Error(c, e)
	}
	for _, r := range []api.Ratio{{}, rat(2, 2), rat(1, 1025), rat(1025, 1), rat(-1, 1)} {
		if c, e := New(r); e != api.ErrInvalid || c.Segments != nil {
			t.Error(r, c, e)
		}
	}
}

// P13.1
func TestChange(t *testing.T) {
	c := example
	c.Segments = append(make([]api.Segment, 0, 9), example.Segments...)
	x, e := Change(c, 4, rat(5, 1))
	y, f := Change(c, api.MaxTime, rat(7, 1))
	if e != api.OK || f != api.OK || !reflect.DeepEqual(x, made(0, 1, 2, 3, 1, 1, 4, 5, 1)) || !reflect.DeepEqual(y, made(0, 1, 2, 3, 1, 1, api.MaxTime, 7, 1)) {
		t.Error(x, y, e, f)
	}
	for _, k := range []struct {
		c    api.Clock
		from int64
		r    api.Ratio
		e    api.Errno
	}{
		{made(0, 2, 2), -1, api.Ratio{}, api.ErrInvalid},
		{example, 3, api.Ratio{}, api.ErrRange}, {example, minInt, rat(1, 1), api.ErrRange}, {example, api.MaxTime + 1, rat(1, 1), api.ErrRange}, {example, maxInt, rat(1, 1), api.ErrRange},
		{example, 4, rat(2, 2), api.ErrInvalid}, {long(64), 100, rat(1025, 1), api.ErrInvalid},
		{long(64), 100, rat(1, 1), api.ErrLimit}, {long(64), 63, rat(1, 1), api.ErrRange},
		{long(63), 63, rat(1, 1), api.OK},
	} {
		if x, e := Change(k.c, k.from, k.r); e != k.e || e != api.OK && x.Segments != nil {
			t.Error(k, x, e)
		}
	}
}

// counted is Position, computed one segment after the other.
func counted(c api.Clock, t int64) *big.Int {
	sum := new(big.Int)
	for i, s := range c.Segments {
		end := t
		if i+1 < len(c.Segments) && c.Segments[i+1].From < t {
			end = c.Segments[i+1].From
		}
		if end > s.From {
			n := new(big.Int).Mul(big.NewInt(end-s.From), big.NewInt(s.Rate.Num))
			sum.Add(sum, n.Div(n, big.NewInt(s.Rate.Den)))
		}
	}
	return sum
}

var clocks = []api.Clock{
	example, made(0, 147, 160), made(0, 160, 147, 10, 1, 1024, 11, 1024, 1, 5000, 3, 7), made(0, 1, 1024), made(0, 1024, 1),
	made(0, 1<<36-1, 1<<36, 1<<20, 1<<36, 1<<36-1, 1<<39, 1, 3), made(0, 1, 1, api.MaxTime, 1000, 1), long(64),
}

var times = []int64{0, 1, 2, 3, 4, 5, 9, 10, 11, 12, 63, 64, 1000, 4999, 5000, 5001, 1 << 20, 1<<20 + 1, 1 << 39, 1<<39 + 12345, api.MaxTime - 1, api.MaxTime}

// P13.2, P13.3
func TestPositionAndBetween(t *testing.T) {
	for time, want := range []int64{0, 0, 1, 1, 2, 3} {
		if n, e := Position(example, int64(time)); n != want || e != api.OK {
			t.Error(time, n, e)
		}
	}
	for _, c := range clocks {
		for i, a := range times {
			x, e := Position(c, a)
			if e != api.OK || counted(c, a).Cmp(big.NewInt(x)) != 0 {
				t.Error(c, a, x, e)
			}
			for k, b := range times {
				y, _ := Position(c, b)
				n, e := Between(c, a, b)
				if i <= k && (e != api.OK || n != y-x) || i > k && (e != api.ErrRange || n != 0) {
					t.Error(c, a, b, n, e)
				}
			}
		}
	}
	for _, c := range invalid {
		if n, e := Position(c, -1); n != 0 || e != api.ErrInvalid {
			t.Error(n, e)
		}
		if n, e := Between(c, -1, -2); n != 0 || e != api.ErrInvalid {
			t.Error(n, e)
		}
	}
	for _, time := range []int64{-1, minInt, api.MaxTime + 1, maxInt} {
		if n, e := Position(example, time); n != 0 || e != api.ErrRange {
			t.Error(n, e)
		}
		if n, e := Between(example, time, time); n != 0 || e != api.ErrRange {
			t.Error(n, e)
		}
		if n, e := Between(example, 0, time); n != 0 || e != api.ErrRange {
			t.Error(n, e)
		}
	}
}

// P13.4
func TestTimeOf(t *testing.T) {
	for _, c := range clocks {
		most, _ := Position(c, api.MaxTime)
		frames := []int64{0, 1, 2, 3, 7, 100, 1 << 20, 1 << 39, most - 1, most, most + 1, maxInt}
		for _, time := range times {
			n, _ := Position(c, time)
			frames = append(frames, n)
		}
		for _, f := range frames {
			at, e := TimeOf(c, f)
			if f > most {
				if e != api.ErrNone || at != 0 {
					t.Error(c, f, at, e)
				}
				continue
			}
			n, _ := Position(c, at)
			before, _ := Position(c, max(at-1, 0))
			if e != api.OK || n < f || at > 0 && before >= f {
				t.Error(c, f, at, n, before, e)
			}
		}
	}
	if _, e := TimeOf(made(0, 2, 2), -1); e != api.ErrInvalid {
		t.Error(e)
	}
	for _, f := range []int64{-1, minInt} {
		if at, e := TimeOf(example, f); e != api.ErrRange || at != 0 {
			t.Error(at, e)
		}
	}
}

// keeps looks at every two times.
func keeps(c api.Clock, nominal api.Ratio, drift, jitter, period, from, to int64) bool {
	for a := from; a <= to; a += period {
		for b := a; b <= to; b += period {
			n, _ := Between(c, a, b)
			ideal := new(big.Rat).Mul(big.NewRat(b-a, 1), big.NewRat(nominal.Num, nominal.Den))
			off := new(big.Rat).Sub(big.NewRat(n, 1), ideal)
			most := new(big.Rat).Mul(ideal, big.NewRat(drift, 65536))
			if off.Abs(off).Cmp(most.Add(most, big.NewRat(jitter, 1))) > 0 {
				return false
			}
		}
	}
	return true
}

// P13.5
func TestKeeps(t *testing.T) {
	yes := 0
	for _, c := range clocks[:6] {
		for _, r := range []api.Ratio{rat(1, 2), rat(1, 1), rat(147, 160), rat(1, 1024), rat(1024, 1), rat(3, 4)} {
			for _, drift := range []int{0, 70, 4096} {
				for _, jitter := range []int64{0, 1, 5} {
					for _, span := range [][3]int64{{1, 0, 20}, {3, 2, 40}, {64, 0, 1500}, {64, 3, 3}, {100, 4000, 4099}} {
						want := keeps(c, r, int64(drift), jitter, span[0], span[1], span[2])
						if want {
							yes++
						}
						if Keeps(c, r, drift, jitter, span[0], span[1], span[2]) != want {
							t.Error(c, r, drift, jitter, span, want)
						}
					}
				}
			}
		}
	}
	if yes < 50 {
		t.Error("hardly a clock keeps", yes)
	}
}

// P13.5: the edge between keeping and not, and arguments that are out of range.
func TestKeepsEdges(t *testing.T) {
	fast := made(0, 4097, 4096)
	if !Keeps(fast, rat(1, 1), 16, 0, 4096, 0, 4096*4095) || Keeps(fast, rat(1, 1), 15, 0, 4096, 0, 4096*4095) {
		t.Error("drift")
	}
	if Keeps(fast, rat(1, 1), 16, 0, 4096, 0, 4096*4096) || !Keeps(fast, rat(1, 1), 16, 0, 4096, 1, 4096*4096) || !Keeps(fast, rat(1, 1), 16, 0, maxInt, 0, api.MaxTime) {
		t.Error("the number of times")
	}
	bend := made(0, 1, 1, 100, 2, 1)
	if !Keeps(bend, rat(1, 1), 0, 0, 50, 0, 149) || Keeps(bend, rat(1, 1), 0, 0, 50, 0, 150) || Keeps(bend, rat(1, 1), 0, 49, 50, 0, 150) || !Keeps(bend, rat(1, 1), 0, 50, 50, 0, 150) {
		t.Error("the last time counts")
	}
	one := made(0, 1, 1)
	if !Keeps(one, rat(1, 1), 0, 0, 1, 0, 0) || !Keeps(one, rat(1, 1), 4096, 65536, 1<<40, 0, 1<<40) {
		t.Error("the edges of ranges")
	}
	for _, c := range invalid {
		if Keeps(c, rat(1, 1), 0, 9, 1, 0, 0) {
			t.Error(c)
		}
	}
	if Keeps(one, rat(2, 2), 0, 0, 1, 0, 0) || Keeps(one, rat(1, 1), -1, 0, 1, 0, 0) || Keeps(one, rat(1, 1), 4097, 0, 1, 0, 0) || Keeps(one, rat(1, 1), 0, -1, 1, 0, 0) || Keeps(one, rat(1, 1), 0, 65537, 1, 0, 0) {
		t.Error("ranges of what is declared")
	}
	for _, x := range [][3]int64{{0, 0, 0}, {-1, 0, 0}, {minInt, 0, 5}, {1, -1, 0}, {1, minInt, maxInt}, {1, 0, api.MaxTime + 1}, {maxInt, 0, api.MaxTime + 1}, {maxInt, -1, 0}, {1, 5, 4}, {maxInt, 5, 4}} {
		if Keeps(one, rat(1, 1), 0, 0, x[0], x[1], x[2]) {
			t.Error(x)
		}
	}
	if slices.ContainsFunc(clocks, func(c api.Clock) bool { return !Valid(c) }) {
		t.Error("a clock of this test is not valid")
	}
}
