package session

import (
	"bytes"
	"reflect"
	"slices"
	"strings"
	"testing"

	"soundservice/api"
	"soundservice/journal"
	"soundservice/wire"
)

func open(id int) api.Record {
	return api.Record{Kind: api.RecOpen, ID: id, Role: "music", Direction: api.Playback, Channels: 2, Rate: 48000, Latency: 960}
}

func volume(id, n int) api.Record { return api.Record{Kind: api.RecVolume, ID: id, N: n} }

func mute(id, n int) api.Record { return api.Record{Kind: api.RecMute, ID: id, N: n} }

func pin(id int, device uint64) api.Record {
	return api.Record{Kind: api.RecPin, ID: id, Device: device}
}

func closing(id int) api.Record { return api.Record{Kind: api.RecClose, ID: id} }

func choose(role string, device uint64, set ...uint64) api.Record {
	return api.Record{Kind: api.RecChoose, Role: role, Device: device, Set: set}
}

func text(s string) api.Record { return api.Record{Kind: api.RecRules, Text: s} }

func good() []api.Record {
	return []api.Record{
		open(3), {Kind: api.RecOpen, ID: 1 << 53, Role: strings.Repeat("r", 64), Direction: api.Capture, Channels: 8, Rate: 768000, Latency: 1 << 40}, {Kind: api.RecOpen, ID: 1, Role: "a", Direction: 1, Channels: 1, Rate: 1000},
		closing(5), volume(5, 0), volume(5, 100), mute(5, 0), mute(5, 1), pin(5, 0), pin(5, 1<<53), choose("music", 7, 3, 7, 1<<53), choose("a", 8, 1, 2, 3, 4, 5, 6, 7, 8), text(""), text("mute a\nduck b 20"), text(strings.Repeat("#", 1500)),
	}
}

func bad() []api.Record {
	var l []api.Record
	for _, change := range []func(*api.Record){
		func(r *api.Record) { r.ID = 0 }, func(r *api.Record) { r.ID = -1 }, func(r *api.Record) { r.ID = 1<<53 + 1 }, func(r *api.Record) { r.Role = "1" }, func(r *api.Record) { r.Direction = 0 }, func(r *api.Record) { r.Direction = 3 }, func(r *api.Record) { r.Channels = 0 }, func(r *api.Record) { r.Channels = 9 }, func(r *api.Record) { r.Rate = 999 }, func(r *api.Record) { r.Rate = 768001 }, func(r *api.Record) { r.Latency = -1 }, func(r *api.Record) { r.Latency = 1<<40 + 1 },
		func(r *api.Record) { r.N = 1 }, func(r *api.Record) { r.Device = 1 }, func(r *api.Record) { r.Set = []uint64{1} }, func(r *api.Record) { r.Text = "x" }, func(r *api.Record) { r.Kind = 0 }, func(r *api.Record) { r.Kind = 8 }, func(r *api.Record) { r.Kind = -1 },
	} {
		r := open(3)
		change(&r)
		l = append(l, r)
	}
	named := volume(5, 5)
	named.Role = "a"
	return append(l, api.Record{}, closing(0), closing(1<<53+1), api.Record{Kind: api.RecClose, ID: 1, N: 1}, volume(0, 5), volume(5, -1), volume(5, 101), named, mute(5, 2), mute(5, -1), mute(0, 1), pin(5, 1<<53+1), pin(0, 1), api.Record{Kind: api.RecPin, ID: 1, N: 1},
		choose("", 1, 1), choose("a", 1), choose("a", 2, 1), choose("a", 1, 2, 1), choose("a", 1, 1, 1<<53+1), choose("a", 0, 0), choose("a", 1, 1, 2, 3, 4, 5, 6, 7, 8, 9), api.Record{Kind: api.RecChoose, ID: 1, Role: "a", Device: 1, Set: []uint64{1}},
		text("hush"), text(strings.Repeat("#", 1501)), api.Record{Kind: api.RecRules, ID: 1})
}

func same(a, b api.Record) bool {
	x, y := a, b
	x.Set, y.Set = nil, nil
	return reflect.DeepEqual(x, y) && slices.Equal(a.Set, b.Set)
}

// P41.1
func TestProperAndBytes(t *testing.T) {
	for i, r := range good() {
		b, e := Encode(r)
		if !Proper(r) || e != api.OK {
			t.Error(i, e)
		}
		if x, e := Decode(b); e != api.OK || !same(x, r) {
			t.Error(i, x, e)
		}
		for n := range b {
			if x, e := Decode(b[:n:n]); e != api.ErrSyntax || !same(x, api.Record{}) {
				t.Error(i, n, x, e)
			}
		}
		if _, e := Decode(append(bytes.Clone(b), 0)); e != api.ErrSyntax {
			t.Error(i, e)
		}
	}
	for i, r := range bad() {
		if b, e := Encode(r); Proper(r) || e != api.ErrInvalid || b != nil {
			t.Error(i, r, e)
		}
	}
	b, _ := Encode(open(3))
	want := "\x01\x00\x03\x00\x00\x00\x00\x00\x00\x00\x05music\x01\x00\x02\x00\x80\xbb\x00\x00\x00\x00\x00\x00\xc0\x03\x00\x00\x00\x00\x00\x00\x00\x00\x00\x00\x00\x00\x00\x00\x00\x00\x00\x00\x00\x00"
	if string(b) != want {
		t.Errorf("%q", b)
	}
	b, _ = Encode(choose("a", 7, 3, 7))
	if want := "\x06\x00" + strings.Repeat("\x00", 8) + "\x01a" + strings.Repeat("\x00", 22) + "\x07\x00\x00\x00\x00\x00\x00\x00\x02\x00\x03\x00\x00\x00\x00\x00\x00\x00\x07\x00\x00\x00\x00\x00\x00\x00\x00\x00"; string(b) != want {
		t.Errorf("%q", b)
	}
}

// P41.1: bytes of the right form that are no proper record.
func TestDecodeImproper(t *testing.T) {
	b, _ := Encode(open(3))
	for i := range b {
		for _, bit := range []byte{1, 128} {
			c := bytes.Clone(b)
			c[i] ^= bit
			r, e := Decode(c)
			if e == api.OK {
				if back, _ := Encode(r); !bytes.Equal(back, c) {
					t.Error(i, r)
				}
			} else if e != api.ErrSyntax || !same(r, api.Record{}) {
				t.Error(i, e)
			}
		}
	}
	c := slices.Concat(b[:2], wire.Put64(nil, 1<<64-1), b[10:])
	if _, e := Decode(c); e != api.ErrSyntax {
		t.Error(e)
	}
}

func applied(t *testing.T, l ...api.Record) api.Session {
	s, n, e := Replay(l)
	if n != len(l) || e != api.OK {
		t.Fatal(n, e)
	}
	return s
}

// P41.2
func TestApply(t *testing.T) {
	s := applied(t, open(5), open(2), volume(5, 30), mute(2, 1), pin(5, 9), choose("a", 1, 1), text("mute a"))
	kept := func(id int) api.Kept {
		return api.Kept{ID: id, Role: "music", Direction: 1, Channels: 2, Rate: 48000, Latency: 960, Volume: 100}
	}
	two, five := kept(2), kept(5)
	two.Muted, five.Volume, five.Pinned = true, 30, 9
	want := api.Session{Streams: []api.Kept{two, five}, Memory: api.Memory{Choices: []api.Choose{{Role: "a", Set: []uint64{1}, Device: 1}}}, Text: "mute a"}
	if !reflect.DeepEqual(s, want) {
		t.Error(s)
	}
	for i, c := range []struct {
		r     api.Record
		check func(api.Session) bool
	}{
		{open(3), func(x api.Session) bool { return len(x.Streams) == 3 && x.Streams[1] == kept(3) }}, {closing(2), func(x api.Session) bool { return len(x.Streams) == 1 && x.Streams[0] == five }}, {volume(2, 0), func(x api.Session) bool { return x.Streams[0].Volume == 0 }},
		{mute(2, 0), func(x api.Session) bool { return !x.Streams[0].Muted }}, {pin(5, 0), func(x api.Session) bool { return x.Streams[1].Pinned == 0 }}, {text(""), func(x api.Session) bool { return x.Text == "" }}, {choose("a", 2, 1, 2), func(x api.Session) bool { return len(x.Memory.Choices) == 2 }},
	} {
		x, e := Apply(s, c.r)
		if e != api.OK || !c.check(x) || !reflect.DeepEqual(s, want) {
			t.Error(i, x, e)
		}
		x.Memory.Choices[0].Set[0] = 77
		if s.Memory.Choices[0].Set[0] != 1 {
			t.Error(i, "shared memory")
		}
	}
	full := api.Session{}
	for id := 1; id <= api.MaxStreams; id++ {
		full, _ = Apply(full, open(id))
	}
	broken := api.Session{Memory: api.Memory{Choices: []api.Choose{{}}}}
	for i, c := range []struct {
		s api.Session
		r api.Record
		e api.Errno
	}{
		{full, api.Record{}, api.ErrInvalid}, {full, open(0), api.ErrInvalid}, {full, open(1), api.ErrExists}, {full, open(30), api.ErrLimit}, {s, closing(3), api.ErrMissing}, {s, volume(3, 1), api.ErrMissing}, {s, mute(3, 1), api.ErrMissing}, {s, pin(3, 1), api.ErrMissing}, {broken, choose("a", 1, 1), api.ErrInvalid}, {broken, text(""), api.OK},
	} {
		if x, e := Apply(c.s, c.r); e != c.e || e != api.OK && !reflect.DeepEqual(x, api.Session{}) {
			t.Error(i, x, e)
		}
	}
}

// P41.3
func TestReplay(t *testing.T) {
	s, n, e := Replay([]api.Record{open(3), volume(3, 50), open(3), open(4)})
	if e != api.ErrExists || n != 2 || !reflect.DeepEqual(s, applied(t, open(3), volume(3, 50))) {
		t.Error(s, n, e)
	}
	if s, n, e := Replay(nil); e != api.OK || n != 0 || !reflect.DeepEqual(s, api.Session{}) {
		t.Error(s, n, e)
	}
	if s := applied(t, open(3), volume(3, 50), closing(3)); len(s.Streams) != 0 || len(Records(s)) != 0 {
		t.Error(s)
	}
}

// P41.4
func TestRecords(t *testing.T) {
	s := applied(t, text("mute b"), choose("b", 2, 2, 3), choose("a", 1, 1), open(9), open(4), mute(4, 1), pin(4, 7), volume(4, 0), mute(9, 1), mute(9, 0), volume(9, 100))
	want := []api.Record{open(4), volume(4, 0), mute(4, 1), pin(4, 7), open(9), choose("b", 2, 2, 3), choose("a", 1, 1), text("mute b")}
	l := Records(s)
	if !slices.EqualFunc(l, want, same) {
		t.Error(l)
	}
	if back := applied(t, l...); !reflect.DeepEqual(back, s) {
		t.Error(back)
	}
	l[5].Set[0] = 77
	if s.Memory.Choices[0].Set[0] != 2 {
		t.Error("shared memory")
	}
}

// P41.5
func TestRestore(t *testing.T) {
	l := []api.Record{open(3), volume(3, 50), choose("a", 1, 1), open(4), text("mute a"), closing(3)}
	var b []byte
	var ends []int
	for _, r := range l {
		frame, _ := Encode(r)
		b, _ = journal.Append(b, frame)
		ends = append(ends, len(b))
	}
	for cut := range len(b) + 1 {
		whole := 0
		for whole < len(l) && ends[whole] <= cut {
			whole++
		}
		s, n := Restore(b[:cut])
		if n != whole || !reflect.DeepEqual(s, applied(t, l[:whole]...)) {
			t.Error(cut, n, whole)
		}
	}
	last, _ := Encode(open(8))
	strange, _ := journal.Append(b, []byte("what is this"))
	strange, _ = journal.Append(strange, last)
	if s, n := Restore(strange); n != 6 || !reflect.DeepEqual(s, applied(t, l...)) {
		t.Error(s, n)
	}
	again, _ := Encode(open(4))
	twice, _ := journal.Append(b, again)
	twice, _ = journal.Append(twice, last)
	if s, n := Restore(twice); n != 6 || !reflect.DeepEqual(s, applied(t, l...)) {
		t.Error(s, n)
	}
}
