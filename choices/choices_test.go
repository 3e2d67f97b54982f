package choices

import (
	"reflect"
	"testing"

	"soundservice/api"
)

func choose(role string, device uint64, set ...uint64) api.Choose {
	return api.Choose{Role: role, Set: set, Device: device}
}

func memory(l ...api.Choose) api.Memory { return api.Memory{Choices: l} }

// many has n choices for sets of one device.
func many(n int) api.Memory {
	var m api.Memory
	for i := range n {
		m.Choices = append(m.Choices, choose("r", uint64(i+1), uint64(i+1)))
	}
	return m
}

var improper = []api.Choose{{}, choose("", 1, 1), choose("1", 1, 1), choose("r", 1), choose("r", 0, 0, 1), choose("r", 2, 1), choose("r", 1, 1, 1), choose("r", 1, 2, 1), choose("r", 1, 1, 2, 3, 4, 5, 6, 7, 8, 9)}

// P30.1
func TestValid(t *testing.T) {
	for i, m := range []api.Memory{{}, many(32), memory(choose("r", 8, 1, 2, 3, 4, 5, 6, 7, 8), choose("s", 1, 1), choose("r", 1, 1), choose("r", 1<<64-1, 1, 1<<64-1))} {
		if !Valid(m) {
			t.Error(i)
		}
	}
	bad := []api.Memory{many(33), memory(choose("r", 1, 1, 2), choose("s", 1, 1), choose("r", 2, 1, 2))}
	for _, c := range improper {
		bad = append(bad, memory(choose("x", 1, 1), c))
	}
	for i, m := range bad {
		if Valid(m) || Lookup(m, "x", []uint64{1}) != 0 {
			t.Error(i)
		}
		if x, e := Remember(m, api.Choose{}); e != api.ErrInvalid || x.Choices != nil {
			t.Error(i, e)
		}
		if x := Forget(m, 1); !reflect.DeepEqual(x, m) {
			t.Error(i, x)
		}
	}
}

// P30.1
func TestRemember(t *testing.T) {
	m := memory(choose("r", 1, 1, 2), choose("s", 1, 1, 2), choose("r", 3, 3))
	x, e := Remember(m, choose("r", 2, 1, 2))
	if e != api.OK || !reflect.DeepEqual(x, memory(choose("s", 1, 1, 2), choose("r", 3, 3), choose("r", 2, 1, 2))) {
		t.Error(x, e)
	}
	x, e = Remember(many(32), choose("q", 1, 1))
	if e != api.OK || len(x.Choices) != 32 || x.Choices[0].Device != 2 || x.Choices[31].Role != "q" {
		t.Error(x, e)
	}
	x, e = Remember(many(32), choose("r", 5, 5))
	if e != api.OK || len(x.Choices) != 32 || x.Choices[0].Device != 1 || x.Choices[31].Device != 5 {
		t.Error(x, e)
	}
	c := choose("r", 9, 9)
	x, _ = Remember(m, c)
	x.Choices[3].Set[0], x.Choices[0].Set[0] = 77, 77
	if c.Set[0] != 9 || m.Choices[0].Set[0] != 1 {
		t.Error("shared memory")
	}
	for i, c := range improper {
		if x, e := Remember(m, c); e != api.ErrRange || x.Choices != nil {
			t.Error(i, e)
		}
	}
}

// P30.2
func TestLookup(t *testing.T) {
	m := memory(choose("r", 1, 1), choose("r", 2, 2), choose("r", 7, 3, 7), choose("r", 3, 1, 2, 3), choose("s", 9, 9), choose("r", 1, 1, 2), choose("r", 9, 3, 9))
	for _, c := range []struct {
		role string
		set  []uint64
		want uint64
	}{
		{"r", []uint64{1}, 1}, {"r", []uint64{3, 7}, 7}, {"r", []uint64{3, 7, 9}, 9}, {"r", []uint64{1, 2}, 1}, {"r", []uint64{1, 2, 3}, 3}, {"r", []uint64{1, 2, 4}, 1}, {"r", []uint64{1, 4}, 1}, {"r", []uint64{3, 7, 8}, 7}, {"r", []uint64{3}, 0}, {"r", nil, 0},
		{"s", []uint64{1, 9}, 9}, {"s", []uint64{1}, 0}, {"t", []uint64{1}, 0}, {"", []uint64{1}, 0}, {"r", []uint64{1, 2, 3, 4, 5, 6, 7, 8, 9, 10}, 3},
		{"r", []uint64{0, 1}, 0}, {"r", []uint64{2, 1}, 0}, {"r", []uint64{1, 1}, 0},
	} {
		if got := Lookup(m, c.role, c.set); got != c.want {
			t.Error(c, got)
		}
	}
}

// P30.3
func TestForget(t *testing.T) {
	m := memory(choose("r", 1, 1, 2), choose("s", 2, 1, 2), choose("r", 1, 1))
	if x := Forget(m, 1); !reflect.DeepEqual(x, memory(choose("s", 2, 1, 2))) || len(m.Choices) != 3 || m.Choices[0].Device != 1 {
		t.Error(x)
	}
	x := Forget(m, 7)
	if !reflect.DeepEqual(x, m) {
		t.Error(x)
	}
	x.Choices[0].Set[0] = 77
	if m.Choices[0].Set[0] != 1 {
		t.Error("shared memory")
	}
}
