package matrix

import (
	"slices"
	"testing"

	"soundservice/api"
)

const hi = 1<<23 - 1

func same(a, b api.Matrix) bool {
	return a.In == b.In && a.Out == b.Out && slices.Equal(a.Coef, b.Coef)
}

// P7.1
func TestValid(t *testing.T) {
	for _, c := range []struct {
		m  api.Matrix
		ok bool
	}{
		{api.Matrix{In: 1, Out: 1, Coef: []int{0}}, true},
		{api.Matrix{In: 2, Out: 3, Coef: []int{api.MaxCoef, -api.MaxCoef, 1, 2, 3, 4}}, true},
		{api.Matrix{In: 8, Out: 8, Coef: make([]int, 64)}, true},
		{api.Matrix{}, false},
		{api.Matrix{In: 0, Out: 1}, false}, {api.Matrix{In: 1, Out: 0}, false},
		{api.Matrix{In: -1, Out: -1, Coef: []int{1}}, false},
		{api.Matrix{In: 9, Out: 1, Coef: make([]int, 9)}, false}, {api.Matrix{In: 1, Out: 9, Coef: make([]int, 9)}, false},
		{api.Matrix{In: 2, Out: 2, Coef: make([]int, 3)}, false}, {api.Matrix{In: 2, Out: 2, Coef: make([]int, 5)}, false},
		{api.Matrix{In: 1, Out: 1, Coef: []int{api.MaxCoef + 1}}, false}, {api.Matrix{In: 1, Out: 1, Coef: []int{-api.MaxCoef - 1}}, false},
	} {
		if Valid(c.m) != c.ok {
			t.Error(c)
		}
	}
}

// P7.1
func TestIdentity(t *testing.T) {
	for n := 1; n <= 8; n++ {
		m, e := Identity(n)
		if e != api.OK || !Valid(m) || m.In != n || m.Out != n {
			t.Error(n, m, e)
		}
		for i, c := range m.Coef {
			if (c == api.One) != (i%(n+1) == 0) || c != 0 && c != api.One {
				t.Error(n, m)
			}
		}
	}
	for _, n := range []int{0, 9, -1, 1<<63 - 1, -1 << 63} {
		if m, e := Identity(n); e != api.ErrRange || m.In != 0 || m.Out != 0 || m.Coef != nil {
			t.Error(n, m, e)
		}
	}
}

// P7.2
func TestApply(t *testing.T) {
	m := api.Matrix{In: 2, Out: 3, Coef: []int{23170, 23170, api.One, -api.One, 0, api.MaxCoef}}
	b := api.Block{Channels: 2, Data: []int32{25600, 25600, -3, 1, hi, hi, -hi, hi}}
	out, e := Apply(m, b)
	want := []int32{36203, 0, 102400, -1, -4, 4, hi, 0, hi, 0, -hi - 1, hi}
	if e != api.OK || out.Channels != 3 || !slices.Equal(out.Data, want) {
		t.Error(out, e)
	}
	half := api.Matrix{In: 1, Out: 1, Coef: []int{api.One / 2}}
	out, _ = Apply(half, api.Block{Channels: 1, Data: []int32{1, -1, 3, -3}})
	if !slices.Equal(out.Data, []int32{1, 0, 2, -1}) {
		t.Error(out)
	}
	i, _ := Identity(2)
	if out, e := Apply(i, b); e != api.OK || !slices.Equal(out.Data, b.Data) {
		t.Error(out, e)
	}
	out, _ = Apply(i, b)
	out.Data[0] = 9
	if b.Data[0] != 25600 {
		t.Error("shared memory")
	}
}

// P7.2: errors and their order.
func TestApplyErrors(t *testing.T) {
	i, _ := Identity(2)
	good := api.Block{Channels: 2}
	for _, c := range []struct {
		m api.Matrix
		b api.Block
		e api.Errno
	}{
		{api.Matrix{}, good, api.ErrInvalid}, {i, api.Block{}, api.ErrInvalid}, {api.Matrix{In: 1}, api.Block{Channels: 3}, api.ErrInvalid},
		{i, api.Block{Channels: 1, Data: []int32{hi + 1}}, api.ErrInvalid}, {i, api.Block{Channels: 1}, api.ErrMismatch}, {i, good, api.OK},
	} {
		if b, e := Apply(c.m, c.b); e != c.e || e != api.OK && (b.Channels != 0 || b.Data != nil) {
			t.Error(c, b, e)
		}
	}
}

// P7.3
func TestMul(t *testing.T) {
	a := api.Matrix{In: 3, Out: 2, Coef: []int{api.One, 2, 3, -4, api.MaxCoef, 6}}
	b := api.Matrix{In: 2, Out: 1, Coef: []int{api.One / 2, api.MaxCoef}}
	want := api.Matrix{In: 3, Out: 1, Coef: []int{16384 - 16, api.MaxCoef, 2 + 24}} // 1.5 + 24 is rounded upwards
	if m, e := Mul(a, b); e != api.OK || !same(m, want) {
		t.Error(m, e)
	}
	low := api.Matrix{In: 1, Out: 1, Coef: []int{-api.MaxCoef}}
	top := api.Matrix{In: 1, Out: 1, Coef: []int{api.MaxCoef}}
	if m, e := Mul(low, top); e != api.OK || m.Coef[0] != -api.MaxCoef {
		t.Error(m, e)
	}
	i, _ := Identity(3)
	if m, e := Mul(i, a); e != api.OK || !same(m, a) {
		t.Error(m, e)
	}
	for _, c := range []struct {
		a, b api.Matrix
		e    api.Errno
	}{{api.Matrix{}, b, api.ErrInvalid}, {a, api.Matrix{In: 3}, api.ErrInvalid}, {b, b, api.ErrMismatch}, {a, a, api.ErrMismatch}} {
		if m, e := Mul(c.a, c.b); e != c.e || m.Coef != nil || m.In != 0 {
			t.Error(m, e)
		}
	}
}

// P7.4
func TestDefault(t *testing.T) {
	const o, s = 32768, 23170
	for _, c := range []struct {
		from, to, coef []int
	}{
		{[]int{api.FL, api.FR}, []int{api.FC}, []int{s, s}},
		{[]int{api.FC}, []int{api.FL, api.FR}, []int{s, s}},
		{[]int{api.FC}, []int{api.FL}, []int{0}},
		{[]int{api.FC}, []int{api.FR, api.BL}, []int{0, 0}},
		{[]int{api.FC}, []int{api.FR, api.LF, api.FL}, []int{s, 0, s}},
		{[]int{api.FL, api.FR}, []int{api.FR, api.FL}, []int{0, o, o, 0}},
		{[]int{api.FL, api.FC}, []int{api.FC, api.FR}, []int{s, o, 0, 0}},
		{[]int{api.FL}, []int{api.FR, api.SL}, []int{0, 0}},
		{[]int{api.LF}, []int{api.FL, api.FR, api.FC}, []int{0, 0, 0}},
		{[]int{api.BL, api.BR}, []int{api.SL, api.SR, api.FL, api.FR, api.FC}, []int{s, 0, 0, s, 0, 0, 0, 0, 0, 0}},
		{[]int{api.BL, api.BR}, []int{api.FL, api.FR, api.FC}, []int{s, 0, 0, s, 0, 0}},
		{[]int{api.BL, api.BR}, []int{api.FC}, []int{s, s}},
		{[]int{api.BL, api.BR}, []int{api.LF}, []int{0, 0}},
		{[]int{api.SL, api.SR}, []int{api.BL, api.BR, api.FL, api.FR}, []int{s, 0, 0, s, 0, 0, 0, 0}},
		{[]int{api.SL, api.SR}, []int{api.FL, api.FR, api.FC}, []int{s, 0, 0, s, 0, 0}},
		{[]int{api.SL, api.SR}, []int{api.FC}, []int{s, s}},
		{[]int{api.SL, api.FL, api.BL}, []int{api.FL, api.BL}, []int{0, o, 0, s, 0, o}},
	} {
		m, e := Default(c.from, c.to)
		if e != api.OK || !same(m, api.Matrix{In: len(c.from), Out: len(c.to), Coef: c.coef}) {
			t.Error(c, m, e)
		}
	}
	all := []int{8, 7, 6, 5, 4, 3, 2, 1}
	m, _ := Default(all, all)
	if i, _ := Identity(8); !same(m, i) {
		t.Error(m)
	}
	for _, c := range [][2][]int{{nil, {1}}, {{1}, nil}, {{1, 1}, {1}}, {{1}, {9}}} {
		if m, e := Default(c[0], c[1]); e != api.ErrInvalid || m.Coef != nil || m.In != 0 {
			t.Error(c, m, e)
		}
	}
}
