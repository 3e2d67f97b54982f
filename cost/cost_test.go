package cost

import (
	"testing"

	"soundservice/api"
)

const maxInt, minInt = 1<<63 - 1, -1 << 63

// P24.1
func TestStreamAndDevice(t *testing.T) {
	for _, c := range []struct {
		in, out, period, want int
		e                     api.Errno
	}{
		{2, 2, 64, 1324, api.OK}, {1, 8, 16, 300 + (4+8+16)*16, api.OK}, {8, 1, 8192, 300 + (32+8+2)*8192, api.OK},
		{0, 2, 64, 0, api.ErrRange}, {9, 2, 64, 0, api.ErrRange}, {2, 0, 64, 0, api.ErrRange}, {2, 9, 64, 0, api.ErrRange}, {2, 2, 15, 0, api.ErrRange}, {2, 2, 8193, 0, api.ErrRange}, {minInt, maxInt, maxInt, 0, api.ErrRange},
	} {
		if n, e := Stream(c.in, c.out, c.period); n != c.want || e != c.e {
			t.Error(c, n, e)
		}
	}
	for _, c := range []struct {
		channels, period, want int
		e                      api.Errno
	}{{2, 64, 1424, api.OK}, {8, 8192, 400 + 64*8192, api.OK}, {1, 16, 528, api.OK}, {0, 64, 0, api.ErrRange}, {9, 64, 0, api.ErrRange}, {1, 15, 0, api.ErrRange}, {1, 8193, 0, api.ErrRange}, {minInt, minInt, 0, api.ErrRange}} {
		if n, e := Device(c.channels, c.period); n != c.want || e != c.e {
			t.Error(c, n, e)
		}
	}
}

// P24.2
func TestTotal(t *testing.T) {
	for _, c := range []struct {
		l    []int
		want int
	}{{nil, 0}, {[]int{1, 2, 3}, 6}, {[]int{-5, 7, minInt}, 7}, {[]int{api.MaxCost, 1}, api.MaxCost}, {[]int{maxInt, maxInt}, api.MaxCost}, {[]int{api.MaxCost - 1, 1}, api.MaxCost}, {[]int{maxInt, -9}, api.MaxCost}} {
		if n := Total(c.l); n != c.want {
			t.Error(c, n)
		}
	}
}

// P24.2
func TestShare(t *testing.T) {
	for _, c := range []struct{ cost, capacity, want int }{
		{0, 1, 0}, {1, 3, 34}, {50, 100, 50}, {100, 100, 100}, {101, 100, 101}, {1001, 1000, 101}, {api.MaxCost, 1, api.MaxCost * 100}, {1, api.MaxCost, 1}, {api.MaxCost, api.MaxCost, 100},
		{-1, 1, 0}, {api.MaxCost + 1, 1, 0}, {1, 0, 0}, {1, -1, 0}, {1, api.MaxCost + 1, 0}, {maxInt, 1, 0}, {minInt, minInt, 0},
	} {
		if n := Share(c.cost, c.capacity); n != c.want {
			t.Error(c, n)
		}
	}
}
