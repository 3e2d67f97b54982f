package journal

import (
	"bytes"
	"slices"
	"testing"

	"soundservice/api"
	"soundservice/wire"
)

var records = [][]byte{[]byte("first"), {}, {0, 255, 7}, bytes.Repeat([]byte{'x'}, api.MaxPayload), []byte("last")}

func written(l ...[]byte) []byte {
	var b []byte
	for _, r := range l {
		b, _ = Append(b, r)
	}
	return b
}

// P40.1, P40.2
func TestFrames(t *testing.T) {
	first := append([]byte{2, 0, 'a', 'b'}, wire.Put64(nil, wire.Hash([]byte("\x00\x00\x00\x00\x00\x00\x00\x00\x02\x00ab")))...)
	if b, e := Append(nil, []byte("ab")); e != api.OK || !bytes.Equal(b, first) {
		t.Error(b, e)
	}
	second := slices.Concat(first, []byte{0, 0}, wire.Put64(nil, wire.Hash(slices.Concat(first[4:], []byte{0, 0}))))
	if b, e := Append(first, nil); e != api.OK || !bytes.Equal(b, second) {
		t.Error(b, e)
	}
	if l, n, e := Read(second); e != api.OK || n != len(second) || !slices.EqualFunc(l, [][]byte{[]byte("ab"), {}}, bytes.Equal) {
		t.Error(l, n, e)
	}
	if l, n, e := Read(nil); e != api.OK || n != 0 || len(l) != 0 {
		t.Error(l, n, e)
	}
}

// P40.1
func TestTorn(t *testing.T) {
	b := written(records...)
	ends := []int{0}
	for i := range records {
		ends = append(ends, ends[i]+10+len(records[i]))
	}
	for cut := 0; cut <= len(b); cut++ {
		if cut > 60 && cut < len(b)-60 && cut%97 != 0 {
			continue
		}
		whole := 0
		for whole < len(records) && ends[whole+1] <= cut {
			whole++
		}
		want := api.ErrShort
		if ends[whole] == cut {
			want = api.OK
		}
		l, n, e := Read(b[:cut])
		if e != want || n != ends[whole] || !slices.EqualFunc(l, records[:whole], bytes.Equal) {
			t.Error(cut, len(l), n, e)
		}
		repaired := Repair(b[:cut])
		if _, _, e := Read(repaired); e != api.OK || !bytes.Equal(repaired, b[:ends[whole]]) {
			t.Error(cut, e)
		}
	}
}

// P40.1: what is wrong in the second frame.
func TestWrong(t *testing.T) {
	b := written([]byte("first"), []byte("second"))
	for i := 15; i < len(b); i++ {
		c := bytes.Clone(b)
		c[i] ^= 4
		want := api.ErrChecksum
		switch i {
		case 15: // 6 becomes 2
		case 16: // 6 becomes 1030
			want = api.ErrShort
		}
		if l, n, e := Read(c); e != want || n != 15 || len(l) != 1 {
			t.Error(i, len(l), n, e)
		}
	}
	for s, want := range map[string]api.Errno{"\xff\xff": api.ErrShort, "\x01\x10\x00\x00\x00\x00\x00\x00\x00\x00": api.ErrLimit, "\x01\x10\x00\x00\x00\x00\x00\x00\x00": api.ErrShort, "\x00\x10\x00\x00\x00\x00\x00\x00\x00\x00": api.ErrShort, "\x00\x00\x00\x00\x00\x00\x00\x00\x00\x00": api.ErrChecksum} {
		if l, n, e := Read(append(bytes.Clone(b), s...)); e != want || n != len(b) || len(l) != 2 {
			t.Errorf("%x: %v %v %v", s, len(l), n, e)
		}
		if x, e := Append(append(bytes.Clone(b), s...), make([]byte, api.MaxPayload+1)); e != want || x != nil {
			t.Errorf("%x: %v", s, e)
		}
	}
	turned := slices.Concat(b[15:], b[:15]) // frames in another order
	if _, n, e := Read(turned); e != api.ErrChecksum || n != 0 {
		t.Error(n, e)
	}
	first := b[:15:len(b)]
	if l, _, _ := Read(first); true {
		l[0][0] = 'z'
	}
	if x, _ := Append(first, []byte("other")); bytes.Equal(x, b) || b[17] != 's' || b[2] != 'f' {
		t.Error("shared memory")
	}
	Repair(first)[2] = 'z'
	if b[2] != 'f' {
		t.Error("shared memory")
	}
}

// P40.2
func TestLimits(t *testing.T) {
	if b, e := Append(nil, make([]byte, api.MaxPayload+1)); e != api.ErrLimit || b != nil {
		t.Error(e)
	}
	var b []byte
	for range 15 {
		b, _ = Append(b, make([]byte, api.MaxPayload))
	}
	room := api.MaxJournal - len(b) - 10
	if x, e := Append(b, make([]byte, room)); e != api.OK || len(x) != api.MaxJournal {
		t.Error(len(x), e)
	}
	if x, e := Append(b, make([]byte, room+1)); e != api.ErrLimit || x != nil {
		t.Error(len(x), e)
	}
}
