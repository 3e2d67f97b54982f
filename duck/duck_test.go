package duck

import (
	"testing"

	"soundservice/api"
	"soundservice/gain"
)

const maxInt, minInt = 1<<63 - 1, -1 << 63

var slope = api.Slope{Attack: 32768, Release: 16384, Hold: 2}

// P32.1
func TestValid(t *testing.T) {
	for i, c := range []struct {
		e  api.Envelope
		s  api.Slope
		ok bool
	}{
		{api.Envelope{}, slope, true}, {api.Envelope{Gain: api.MaxGain, Wait: api.MaxQuanta}, api.Slope{Attack: api.MaxGain, Release: api.MaxGain, Hold: api.MaxQuanta}, true}, {api.Envelope{}, api.Slope{Attack: 1, Release: 1}, true},
		{api.Envelope{Gain: -1}, slope, false}, {api.Envelope{Gain: api.MaxGain + 1}, slope, false}, {api.Envelope{Wait: -1}, slope, false}, {api.Envelope{Wait: 3}, slope, false},
		{api.Envelope{}, api.Slope{Attack: 0, Release: 1}, false}, {api.Envelope{}, api.Slope{Attack: 1, Release: 0}, false}, {api.Envelope{}, api.Slope{Attack: api.MaxGain + 1, Release: 1}, false}, {api.Envelope{}, api.Slope{Attack: 1, Release: api.MaxGain + 1}, false},
		{api.Envelope{}, api.Slope{Attack: 1, Release: 1, Hold: -1}, false}, {api.Envelope{}, api.Slope{Attack: 1, Release: 1, Hold: api.MaxQuanta + 1}, false}, {api.Envelope{}, api.Slope{}, false},
	} {
		if Valid(c.e, c.s) != c.ok {
			t.Error(i)
		}
		if x, r, e := Step(c.e, c.s, -1, -1); !c.ok && (e != api.ErrInvalid || x != (api.Envelope{}) || r != (api.Ramp{}) || Quanta(c.e, c.s, 5) != 0) {
			t.Error(i, e)
		}
	}
}

// P32.1
func TestStep(t *testing.T) {
	for i, c := range []struct {
		e      api.Envelope
		wanted int
		after  api.Envelope
	}{
		{api.Envelope{Gain: 65536}, 0, api.Envelope{Gain: 32768, Wait: 2}}, {api.Envelope{Gain: 32768, Wait: 1}, 0, api.Envelope{Gain: 0, Wait: 2}}, {api.Envelope{Gain: 100}, 7, api.Envelope{Gain: 7, Wait: 2}},
		{api.Envelope{Gain: 0, Wait: 2}, 65536, api.Envelope{Gain: 0, Wait: 1}}, {api.Envelope{Gain: 0, Wait: 1}, 65536, api.Envelope{Gain: 0, Wait: 0}}, {api.Envelope{Gain: 0}, 65536, api.Envelope{Gain: 16384}}, {api.Envelope{Gain: 65530}, 65536, api.Envelope{Gain: 65536}},
		{api.Envelope{Gain: 5, Wait: 2}, 5, api.Envelope{Gain: 5, Wait: 2}}, {api.Envelope{Gain: 5}, 5, api.Envelope{Gain: 5}},
	} {
		x, r, e := Step(c.e, slope, c.wanted, 64)
		if e != api.OK || x != c.after || r != (api.Ramp{From: c.e.Gain, To: c.after.Gain, Frames: 64}) || !gain.Valid(r) {
			t.Error(i, x, r, e)
		}
	}
	for _, c := range [][2]int{{-1, 64}, {api.MaxGain + 1, 64}, {0, 15}, {0, 8193}, {maxInt, minInt}} {
		if x, r, e := Step(api.Envelope{}, slope, c[0], c[1]); e != api.ErrRange || x != (api.Envelope{}) || r != (api.Ramp{}) {
			t.Error(c, e)
		}
	}
}

// P32.2
func TestQuanta(t *testing.T) {
	for _, s := range []api.Slope{slope, {Attack: 1000, Release: 777, Hold: 5}, {Attack: api.MaxGain, Release: api.MaxGain}} {
		for _, e := range []api.Envelope{{}, {Gain: 65536}, {Gain: 1234, Wait: min(2, s.Hold)}, {Gain: api.MaxGain}} {
			for _, wanted := range []int{0, 1, 1234, 65536, api.MaxGain} {
				n, x := 0, e
				for x.Gain != wanted {
					x, _, _ = Step(x, s, wanted, 64)
					n++
				}
				if Quanta(e, s, wanted) != n {
					t.Error(s, e, wanted, n, Quanta(e, s, wanted))
				}
			}
			for _, wanted := range []int{-1, api.MaxGain + 1, maxInt, minInt} {
				if Quanta(e, s, wanted) != 0 {
					t.Error(wanted)
				}
			}
		}
	}
}
