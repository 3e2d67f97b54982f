package channels

import (
	"slices"
	"testing"

	"soundservice/api"
)

var all = []int{api.FL, api.FR, api.FC, api.LF, api.BL, api.BR, api.SL, api.SR}

// P6.1
func TestValid(t *testing.T) {
	for _, m := range [][]int{{api.FL}, {api.SR}, {api.FC, api.FL}, all} {
		if !Valid(m) {
			t.Error(m)
		}
	}
	for _, m := range [][]int{nil, {}, {0}, {9}, {-1}, {1, 1}, {1, 2, 1}, {1, 2, 3, 4, 5, 6, 7, 8, 8}, {1, 2, 3, 4, 5, 6, 7, 8, 9}} {
		if Valid(m) {
			t.Error(m)
		}
	}
}

// P6.1
func TestIndex(t *testing.T) {
	l := []int{5, 7, 7, -3}
	for p, want := range map[int]int{5: 0, 7: 1, -3: 3, 4: -1, 0: -1} {
		if Index(l, p) != want {
			t.Error(p, Index(l, p))
		}
	}
	if Index(nil, 1) != -1 {
		t.Error("nothing is in an empty list")
	}
}

// P6.2
func TestFormat(t *testing.T) {
	for _, c := range []struct {
		m []int
		s string
	}{{nil, ""}, {[]int{api.FL, api.FR}, "FL,FR"}, {all, "FL,FR,FC,LF,BL,BR,SL,SR"}, {[]int{0, 9, -1, 1, 1}, "?,?,?,FL,FL"}, {[]int{1<<63 - 1}, "?"}} {
		if Format(c.m) != c.s {
			t.Error(c, Format(c.m))
		}
	}
}

// P6.2
func TestParse(t *testing.T) {
	for _, c := range []struct {
		s string
		m []int
		e api.Errno
	}{
		{"FL", []int{api.FL}, api.OK},
		{"SR,FL,LF", []int{api.SR, api.FL, api.LF}, api.OK},
		{"FL,FR,FC,LF,BL,BR,SL,SR", all, api.OK},
		{"FL,FL", nil, api.ErrInvalid},
		{"FL,FR,FC,LF,BL,BR,SL,SR,FL", nil, api.ErrInvalid},
		{"FL,FL,", nil, api.ErrSyntax},
		{"FL,", nil, api.ErrSyntax}, {",FL", nil, api.ErrSyntax}, {"", nil, api.ErrSyntax}, {",", nil, api.ErrSyntax},
		{"FL,,FR", nil, api.ErrSyntax}, {"fl", nil, api.ErrSyntax}, {"FL, FR", nil, api.ErrSyntax}, {"FL FR", nil, api.ErrSyntax},
		{"?", nil, api.ErrSyntax}, {"XX", nil, api.ErrSyntax}, {"F", nil, api.ErrSyntax}, {"FLFR", nil, api.ErrSyntax},
	} {
		if m, e := Parse(c.s); !slices.Equal(m, c.m) || e != c.e {
			t.Error(c, m, e)
		}
	}
}

// P6.3
func TestLists(t *testing.T) {
	l := []int{8, 1, 5, 1, -2}
	if s := Sorted(l); !slices.Equal(s, []int{-2, 1, 1, 5, 8}) || l[0] != 8 {
		t.Error(s, l)
	}
	if len(Sorted(nil)) != 0 {
		t.Error("nothing, sorted")
	}
	if !Same(nil, []int{}) || !Same([]int{1, 2}, []int{1, 2}) || Same([]int{1, 2}, []int{2, 1}) || Same([]int{1}, []int{1, 1}) || Same([]int{1}, nil) {
		t.Error("Same")
	}
	for _, c := range []struct{ a, b, want []int }{
		{[]int{3, 1, 2}, []int{2, 3}, []int{3, 2}}, {[]int{1, 1, 4}, []int{1}, []int{1, 1}}, {nil, []int{1}, nil}, {[]int{1}, nil, nil}, {[]int{9}, []int{9, 8}, []int{9}},
	} {
		if got := Common(c.a, c.b); !slices.Equal(got, c.want) {
			t.Error(c, got)
		}
	}
}
