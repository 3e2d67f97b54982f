package wire

import (
	"bytes"
	"hash/crc32"
	"hash/fnv"
	"strings"
	"testing"

	"soundservice/api"
)

// P1.1
func TestPutNumbers(t *testing.T) {
	for _, c := range []struct{ got, want []byte }{
		{Put16(nil, 258), []byte{2, 1}},
		{Put16([]byte{9}, 0), []byte{9, 0, 0}},
		{Put16(nil, 65535), []byte{255, 255}},
		{Put32(nil, 0x01020304), []byte{4, 3, 2, 1}},
		{Put32([]byte{7, 8}, 1<<32-1), []byte{7, 8, 255, 255, 255, 255}},
		{Put64(nil, 0x0807060504030201), []byte{1, 2, 3, 4, 5, 6, 7, 8}},
		{Put64([]byte{}, 1<<63), []byte{0, 0, 0, 0, 0, 0, 0, 128}},
	} {
		if !bytes.Equal(c.got, c.want) {
			t.Errorf("got %x, want %x", c.got, c.want)
		}
	}
}

// P1.1: what lies beyond the length of b is left alone, and the result is new memory.
func TestPutSharesNothing(t *testing.T) {
	whole := []byte{1, 2, 3, 4, 5, 6, 7, 8, 9, 10, 11, 12}
	b := whole[:2]
	results := [][]byte{Put16(b, 0xAAAA), Put32(b, 0xBBBBBBBB), Put64(b, 0)}
	text, _ := PutText(b, "zz")
	results = append(results, text)
	for _, r := range results {
		r[0] = 77
	}
	if !bytes.Equal(whole, []byte{1, 2, 3, 4, 5, 6, 7, 8, 9, 10, 11, 12}) {
		t.Error("an argument was changed", whole)
	}
}

// P1.1
func TestPutText(t *testing.T) {
	if b, e := PutText([]byte{5}, "ab\x00"); e != api.OK || string(b) != "\x05\x03ab\x00" {
		t.Error(b, e)
	}
	if b, e := PutText(nil, ""); e != api.OK || string(b) != "\x00" {
		t.Error(b, e)
	}
	if b, e := PutText(nil, strings.Repeat("n", api.MaxName)); e != api.OK || len(b) != api.MaxName+1 {
		t.Error(len(b), e)
	}
	if b, e := PutText([]byte{1}, strings.Repeat("n", api.MaxName+1)); e != api.ErrLimit || b != nil {
		t.Error(b, e)
	}
}

// P1.2
func TestGetNumbers(t *testing.T) {
	b := Put64(Put32(Put16([]byte{1}, 0xBEEF), 0xDEADBEEF), 0x0123456789ABCDEF)
	x, at, e := Get16(b, 1)
	if x != 0xBEEF || at != 3 || e != api.OK {
		t.Error(x, at, e)
	}
	y, at, e := Get32(b, 3)
	if y != 0xDEADBEEF || at != 7 || e != api.OK {
		t.Error(y, at, e)
	}
	z, at, e := Get64(b, 7)
	if z != 0x0123456789ABCDEF || at != 15 || e != api.OK {
		t.Error(z, at, e)
	}
}

// P1.2: errors and their order.
func TestGetErrors(t *testing.T) {
	gets := []func([]byte, int) (int, api.Errno){
		func(b []byte, at int) (int, api.Errno) { n, k, e := Get16(b, at); return int(n) + k, e },
		func(b []byte, at int) (int, api.Errno) { n, k, e := Get32(b, at); return int(n) + k, e },
		func(b []byte, at int) (int, api.Errno) { n, k, e := Get64(b, at); return int(n) + k, e },
	}
	for i, get := range gets {
		size := 2 << i
		b := bytes.Repeat([]byte{1}, size)
		for at := -2; at <= size+2; at++ {
			want := api.ErrShort
			if at < 0 || at > size {
				want = api.ErrRange
			} else if at == 0 {
				want = api.OK
			}
			sum, e := get(b, at)
			if e != want || e != api.OK && sum != 0 {
				t.Error(size, at, sum, e)
			}
		}
		for _, at := range []int{-1 << 63, 1<<63 - 1} {
			if _, e := get(b, at); e != api.ErrRange {
				t.Error(size, at, e)
			}
		}
		if _, e := get(nil, 0); e != api.ErrShort {
			t.Error(size, e)
		}
	}
}

// P1.3
func TestGetText(t *testing.T) {
	for _, c := range []struct {
		b    string
		at   int
		s    string
		next int
		e    api.Errno
	}{
		{"\x02abc", 0, "ab", 3, api.OK},
		{"x\x00", 1, "", 2, api.OK},
		{"\x40" + strings.Repeat("q", 64) + "r", 0, strings.Repeat("q", 64), 65, api.OK},
		{"", 0, "", 0, api.ErrShort},
		{"ab", 2, "", 0, api.ErrShort},
		{"ab", 3, "", 0, api.ErrRange},
		{"ab", -1, "", 0, api.ErrRange},
		{"\x03ab", 0, "", 0, api.ErrShort},
		{"xy\x03abc", 2, "abc", 6, api.OK},
		{"xy\x03ab", 2, "", 0, api.ErrShort},
		{"\x41ab", 0, "", 0, api.ErrLimit},
		{"\xff" + strings.Repeat("q", 300), 0, "", 0, api.ErrLimit},
	} {
		if s, next, e := GetText([]byte(c.b), c.at); s != c.s || next != c.next || e != c.e {
			t.Error(c, s, next, e)
		}
	}
}

// P1.4
func TestSum(t *testing.T) {
	if Sum([]byte("123456789")) != 0xCBF43926 || Sum(nil) != 0 || Sum(make([]byte, 4)) != 0x2144DF1C {
		t.Error("known sums")
	}
	b := []byte("a few bytes\x00\xff\x80 whose sum is known")
	if Sum(b) != crc32.ChecksumIEEE(b) {
		t.Error(Sum(b))
	}
	for i := range b {
		changed := bytes.Clone(b)
		changed[i] ^= 0x10
		if Sum(changed) == Sum(b) {
			t.Error("the sum does not see the change of byte", i)
		}
	}
}

// P1.5
func TestHash(t *testing.T) {
	for _, s := range []string{"", "a", "foobar", "\x00\xff\x00"} {
		h := fnv.New64a()
		h.Write([]byte(s))
		if Hash([]byte(s)) != h.Sum64() {
			t.Error(s, Hash([]byte(s)))
		}
	}
}
