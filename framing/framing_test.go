package framing

import (
	"bytes"
	"slices"
	"strings"
	"testing"

	"soundservice/api"
)

// P34.1
func TestEncode(t *testing.T) {
	for s, want := range map[string]string{"abc": "3:abc,", "": "0:,", "0123456789": "10:0123456789,", "a,3:": "4:a,3:,", "\x00\xff": "2:\x00\xff,"} {
		if b, e := Encode([]byte(s)); e != api.OK || string(b) != want {
			t.Errorf("%q: %q %v", s, b, e)
		}
	}
	if b, e := Encode(make([]byte, api.MaxPayload)); e != api.OK || !bytes.HasPrefix(b, []byte("4096:")) || len(b) != api.MaxPayload+6 {
		t.Error(len(b), e)
	}
	if b, e := Encode(make([]byte, api.MaxPayload+1)); e != api.ErrLimit || b != nil {
		t.Error(len(b), e)
	}
}

// P34.2
func TestSplit(t *testing.T) {
	long := "4096:" + strings.Repeat("z", 4096) + ","
	for _, c := range []struct {
		s    string
		l    []string
		used int
		e    api.Errno
	}{
		{"", nil, 0, api.OK}, {"3:abc,", []string{"abc"}, 6, api.OK}, {"3:abc,0:,1:,,", []string{"abc", "", ","}, 13, api.OK}, {long + "1", []string{strings.Repeat("z", 4096)}, len(long), api.OK},
		{"3", nil, 0, api.OK}, {"3:", nil, 0, api.OK}, {"3:ab", nil, 0, api.OK}, {"3:abc", nil, 0, api.OK}, {"0", nil, 0, api.OK}, {"0:", nil, 0, api.OK}, {"4096", nil, 0, api.OK}, {"1:a,3:b", []string{"a"}, 4, api.OK},
		{"03:abc,", nil, 0, api.ErrSyntax}, {"00", nil, 0, api.ErrSyntax}, {":", nil, 0, api.ErrSyntax}, {"x", nil, 0, api.ErrSyntax}, {",", nil, 0, api.ErrSyntax}, {"3abc,", nil, 0, api.ErrSyntax}, {"3:abcd", nil, 0, api.ErrSyntax}, {"0:x", nil, 0, api.ErrSyntax}, {"-1:,", nil, 0, api.ErrSyntax}, {" 1:a,", nil, 0, api.ErrSyntax}, {"1 :a,", nil, 0, api.ErrSyntax},
		{"1:a,1:b;", []string{"a"}, 4, api.ErrSyntax}, {"1:a,x", []string{"a"}, 4, api.ErrSyntax},
		{"4097", nil, 0, api.ErrLimit}, {"40960", nil, 0, api.ErrLimit}, {"9999x", nil, 0, api.ErrLimit}, {"409x", nil, 0, api.ErrSyntax}, {"1:a,5000:", []string{"a"}, 4, api.ErrLimit}, {"099999", nil, 0, api.ErrSyntax}, {strings.Repeat("9", 100), nil, 0, api.ErrLimit},
	} {
		l, used, e := Split([]byte(c.s))
		if !slices.EqualFunc(l, c.l, func(b []byte, s string) bool { return string(b) == s }) || used != c.used || e != c.e {
			t.Errorf("%.20q: %q %v %v", c.s, l, used, e)
		}
	}
	b := []byte("1:a,1:b,")
	l, _, _ := Split(b)
	l[0] = append(l[0], 'z')
	l[0][0] = 'y'
	if string(b) != "1:a,1:b," || string(l[1]) != "b" {
		t.Error("shared memory")
	}
}

// P34.2: in whatever pieces frames come.
func TestPieces(t *testing.T) {
	var all []byte
	var want [][]byte
	for i := range 30 {
		payload := bytes.Repeat([]byte{byte(i), ','}, i*i%40)
		frame, _ := Encode(payload)
		all, want = append(all, frame...), append(want, payload)
	}
	for _, size := range []int{1, 2, 7, 100, len(all)} {
		var got [][]byte
		var rest []byte
		for piece := range slices.Chunk(all, size) {
			rest = append(rest, piece...)
			l, used, e := Split(rest)
			if e != api.OK {
				t.Fatal(e)
			}
			got, rest = append(got, l...), rest[used:]
		}
		if len(rest) != 0 || !slices.EqualFunc(got, want, bytes.Equal) {
			t.Error(size)
		}
	}
}

// P34.3
func TestResync(t *testing.T) {
	for s, want := range map[string]int{"": 0, "x": 1, "xyz": 3, "x1:a,": 1, "1:a,": 4, "1:a,1:b,": 4, "3:ab1:c,": 4, "99999:x0:,": 7, "x1:a": 4, "12:a,": 5, "11:a,": 1} {
		if got := Resync([]byte(s)); got != want {
			t.Errorf("%q: %v", s, got)
		}
	}
}
