package client

import (
	"testing"

	"soundservice/api"
)

const maxInt, minInt = 1<<63 - 1, -1 << 63

var invalid = []api.Conduct{{Patience: -1}, {Patience: api.MaxQuanta + 1}, {Taken: -1}, {Taken: 1}, {Given: -1, Taken: -1}, {Given: api.MaxTime + 1}, {Short: -1}, {Short: api.MaxTime + 1}}

// P36.1
func TestNewAndValid(t *testing.T) {
	for _, p := range []int{0, 5, api.MaxQuanta} {
		if c, e := New(p); e != api.OK || c != (api.Conduct{Patience: p}) || !Valid(c) {
			t.Error(c, e)
		}
	}
	for _, p := range []int{-1, api.MaxQuanta + 1, maxInt, minInt} {
		if c, e := New(p); e != api.ErrRange || c != (api.Conduct{}) {
			t.Error(c, e)
		}
	}
	if !Valid(api.Conduct{Given: api.MaxTime, Taken: api.MaxTime, Short: api.MaxTime, Dead: true}) {
		t.Error("the greatest numbers")
	}
	for i, c := range invalid {
		if Valid(c) || State(c) != 0 || State(Die(c)) != 0 {
			t.Error(i)
		}
	}
}

// P36.2
func TestWrote(t *testing.T) {
	c := api.Conduct{Patience: 1, Given: 10, Taken: 4, Short: 2}
	if x, e := Wrote(c, 5); e != api.OK || x != (api.Conduct{Patience: 1, Given: 15, Taken: 4, Short: 2}) {
		t.Error(x, e)
	}
	for i, k := range []struct {
		c      api.Conduct
		frames int
		e      api.Errno
	}{
		{Die(invalid[0]), -1, api.ErrInvalid}, {Die(c), -1, api.ErrState}, {Die(c), 1, api.ErrState}, {c, -1, api.ErrRange}, {c, minInt, api.ErrRange}, {c, api.MaxTime - 9, api.ErrLimit}, {c, maxInt, api.ErrLimit}, {c, api.MaxTime - 10, api.OK}, {c, 0, api.OK},
	} {
		if x, e := Wrote(k.c, k.frames); e != k.e || e != api.OK && x != (api.Conduct{}) {
			t.Error(i, x, e)
		}
	}
}

// P36.3, P36.4
func TestTickAndState(t *testing.T) {
	c, _ := New(1)
	c, _ = Wrote(c, 100)
	for i, want := range []struct{ missing, state, short int }{{0, api.Good, 0}, {28, api.Late, 1}, {64, api.Stalled, 2}, {64, api.Stalled, 3}} {
		var missing int
		var e api.Errno
		c, missing, e = Tick(c, 64)
		if e != api.OK || missing != want.missing || State(c) != want.state || c.Short != want.short || c.Taken > c.Given {
			t.Error(i, c, missing, e)
		}
	}
	if x, missing, e := Tick(c, 0); e != api.OK || missing != 0 || x.Short != 0 || State(x) != api.Good {
		t.Error(x, missing, e)
	}
	if x, missing, e := Tick(api.Conduct{Given: 5, Short: api.MaxTime}, maxInt); e != api.OK || missing != maxInt-5 || x.Short != api.MaxTime || x.Taken != 5 {
		t.Error(x, missing, e)
	}
	for i, x := range invalid {
		if y, missing, e := Tick(x, -1); e != api.ErrInvalid || missing != 0 || y != (api.Conduct{}) {
			t.Error(i, e)
		}
	}
	for _, need := range []int{-1, minInt} {
		if y, missing, e := Tick(c, need); e != api.ErrRange || missing != 0 || y != (api.Conduct{}) {
			t.Error(e)
		}
	}
	dead := Die(c)
	if c.Dead || !dead.Dead || State(dead) != api.Gone || dead.Given != c.Given || State(Die(api.Conduct{})) != api.Gone {
		t.Error(dead)
	}
}

// P36.4
func TestWhole(t *testing.T) {
	for _, c := range [][3]int{{0, 4, 0}, {3, 4, 0}, {4, 4, 1}, {11, 4, 2}, {maxInt, 1, maxInt}, {-1, 4, 0}, {5, 0, 0}, {5, -1, 0}, {minInt, minInt, 0}} {
		if n := Whole(c[0], c[1]); n != c[2] {
			t.Error(c, n)
		}
	}
}
