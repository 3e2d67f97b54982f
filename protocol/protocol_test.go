package protocol

import (
	"reflect"
	"strings"
	"testing"

	"soundservice/api"
	"soundservice/words"
)

var open = api.Request{Kind: api.ReqOpen, ID: 3, Role: "music", Direction: api.Playback, Channels: 2, Rate: 48000, Latency: 960}

// lines of valid requests.
func lines() []struct {
	s string
	r api.Request
} {
	return []struct {
		s string
		r api.Request
	}{
		{"open 3 music playback 2 48000 960", open},
		{"open 9007199254740992 A-b.c_1 capture 8 768000 1099511627776", api.Request{Kind: api.ReqOpen, ID: 1 << 53, Role: "A-b.c_1", Direction: api.Capture, Channels: 8, Rate: 768000, Latency: 1 << 40}},
		{"open 1 a playback 1 1000 0", api.Request{Kind: api.ReqOpen, ID: 1, Role: "a", Direction: api.Playback, Channels: 1, Rate: 1000}},
		{"close 5", api.Request{Kind: api.ReqClose, ID: 5}}, {"start 5", api.Request{Kind: api.ReqStart, ID: 5}}, {"pause 5", api.Request{Kind: api.ReqPause, ID: 5}}, {"drain 5", api.Request{Kind: api.ReqDrain, ID: 5}},
		{"volume 5 0", api.Request{Kind: api.ReqVolume, ID: 5}}, {"volume 5 100", api.Request{Kind: api.ReqVolume, ID: 5, N: 100}}, {"mute 3 on", api.Request{Kind: api.ReqMute, ID: 3, N: 1}}, {"mute 3 off", api.Request{Kind: api.ReqMute, ID: 3}},
		{`write 3 ""`, api.Request{Kind: api.ReqWrite, ID: 3}}, {`write 3 abc`, api.Request{Kind: api.ReqWrite, ID: 3, Data: []byte("abc")}}, {"write 3 \"\x00 \\n\xff\"", api.Request{Kind: api.ReqWrite, ID: 3, Data: []byte("\x00 \n\xff")}},
		{"read 3 0", api.Request{Kind: api.ReqRead, ID: 3}}, {"read 3 65536", api.Request{Kind: api.ReqRead, ID: 3, N: 65536}}, {"move 3 0", api.Request{Kind: api.ReqMove, ID: 3}}, {"move 3 9007199254740992", api.Request{Kind: api.ReqMove, ID: 3, Device: 1 << 53}},
		{`rules ""`, api.Request{Kind: api.ReqRules}}, {`rules "mute a\nmute b"`, api.Request{Kind: api.ReqRules, Text: "mute a\nmute b"}}, {"list", api.Request{Kind: api.ReqList}},
		{"write 1 " + strings.Repeat("d", api.MaxData), api.Request{Kind: api.ReqWrite, ID: 1, Data: []byte(strings.Repeat("d", api.MaxData))}},
		{"rules " + strings.Repeat("t", 1500), api.Request{Kind: api.ReqRules, Text: strings.Repeat("t", 1500)}},
	}
}

func equal(a, b api.Request) bool {
	x, y := a, b
	x.Data, y.Data = nil, nil
	return reflect.DeepEqual(x, y) && string(a.Data) == string(b.Data)
}

// P35.1, P35.2
func TestRequests(t *testing.T) {
	for _, c := range lines() {
		if !Valid(c.r) {
			t.Error(c.s)
		}
		if s, e := Format(c.r); s != c.s || e != api.OK {
			t.Error(c.s, s, e)
		}
		if r, e := Parse(c.s); !equal(r, c.r) || e != api.OK {
			t.Error(c.s, r, e)
		}
	}
	if r, e := Parse(`"open" "3" "music" "playback" "2" "48000" "960"`); e != api.OK || !equal(r, open) {
		t.Error(r, e)
	}
	worst, e := Format(api.Request{Kind: api.ReqWrite, ID: 1 << 53, Data: []byte(strings.Repeat("\n", api.MaxData))})
	if e != api.OK || len(worst) > api.MaxLine {
		t.Error(len(worst), e)
	}
}

// P35.1
func TestInvalidRequests(t *testing.T) {
	var bad []api.Request
	for _, change := range []func(*api.Request){
		func(r *api.Request) { r.ID = 0 }, func(r *api.Request) { r.ID = -1 }, func(r *api.Request) { r.ID = 1<<53 + 1 }, func(r *api.Request) { r.Role = "" }, func(r *api.Request) { r.Role = "a b" }, func(r *api.Request) { r.Direction = 0 }, func(r *api.Request) { r.Direction = 3 },
		func(r *api.Request) { r.Channels = 0 }, func(r *api.Request) { r.Channels = 9 }, func(r *api.Request) { r.Rate = 999 }, func(r *api.Request) { r.Rate = 768001 }, func(r *api.Request) { r.Latency = -1 }, func(r *api.Request) { r.Latency = 1<<40 + 1 },
		func(r *api.Request) { r.N = 1 }, func(r *api.Request) { r.Device = 1 }, func(r *api.Request) { r.Data = []byte{1} }, func(r *api.Request) { r.Text = "x" }, func(r *api.Request) { r.Kind = 0 }, func(r *api.Request) { r.Kind = 13 }, func(r *api.Request) { r.Kind = -1 },
	} {
		r := open
		change(&r)
		bad = append(bad, r)
	}
	bad = append(bad,
		api.Request{Kind: api.ReqClose}, api.Request{Kind: api.ReqClose, ID: 1, Role: "a"}, api.Request{Kind: api.ReqStart, ID: 1, Direction: 1}, api.Request{Kind: api.ReqPause, ID: 1, Channels: 1}, api.Request{Kind: api.ReqDrain, ID: 1, Rate: 1000},
		api.Request{Kind: api.ReqVolume, ID: 1, N: -1}, api.Request{Kind: api.ReqVolume, ID: 1, N: 101}, api.Request{Kind: api.ReqMute, ID: 1, N: 2}, api.Request{Kind: api.ReqMute, ID: 1, N: -1}, api.Request{Kind: api.ReqWrite, ID: 1, Data: make([]byte, api.MaxData+1)}, api.Request{Kind: api.ReqWrite, ID: 1, Latency: 1},
		api.Request{Kind: api.ReqRead, ID: 1, N: 65537}, api.Request{Kind: api.ReqRead, ID: 1, N: -1}, api.Request{Kind: api.ReqMove, ID: 1, Device: 1<<53 + 1}, api.Request{Kind: api.ReqMove, ID: 1, Device: 1<<64 - 1}, api.Request{Kind: api.ReqRules, ID: 1}, api.Request{Kind: api.ReqRules, Text: strings.Repeat("t", 1501)}, api.Request{Kind: api.ReqList, ID: 1}, api.Request{},
	)
	for i, r := range bad {
		if Valid(r) {
			t.Error(i, r)
		}
		if s, e := Format(r); e != api.ErrInvalid || s != "" {
			t.Error(i, s, e)
		}
	}
	if !Valid(api.Request{Kind: api.ReqList, Data: []byte{}}) {
		t.Error("empty data")
	}
}

// P35.2
func TestParseErrors(t *testing.T) {
	for _, s := range []string{
		"", `""`, "hello", "list 1", "list ", " list", "List", "close", "close x", "close 0", "close -1", "close 05", "close +5", "close 9007199254740993", "close 5 5", "open 3 music playback 2 48000", "open 3 music playback 2 48000 960 1", "open 3 1music playback 2 48000 960", "open 3 music Playback 2 48000 960", "open 3 music 1 2 48000 960", "open 3 music playback 9 48000 960", "open 3 music playback 2 999 960", "open 3 music playback 2 48000 -1",
		"volume 3 101", "volume 3 -1", "mute 3 1", "mute 3 ON", "mute 3", "write 3", "read 3 65537", "move 3 -1", "move 3 9007199254740993", "rules", "rules a b", "write 3 " + strings.Repeat("d", 1025), "rules " + strings.Repeat("t", 1501), "start 3 on", `start "3`,
	} {
		if r, e := Parse(s); e != api.ErrSyntax || !equal(r, api.Request{}) || r.Data != nil {
			t.Errorf("%.40q: %v %v", s, r, e)
		}
	}
	for _, s := range []string{strings.Repeat("x", api.MaxLine+1), "list" + strings.Repeat(" x", api.MaxWords)} {
		if r, e := Parse(s); e != api.ErrLimit || !equal(r, api.Request{}) {
			t.Error(r, e)
		}
	}
}

// P35.3
func TestAnswers(t *testing.T) {
	for _, c := range []struct {
		s string
		a api.Answer
	}{
		{"ok", api.Answer{}}, {"ok data abc", api.Answer{Data: []byte("abc")}}, {"ok data \"\x00\\\"\"", api.Answer{Data: []byte("\x00\"")}}, {`ok text "a b\n"`, api.Answer{Text: "a b\n"}}, {"error 1", api.Answer{Code: 1}}, {"error 999", api.Answer{Code: 999}},
		{"ok data " + strings.Repeat("d", api.MaxData), api.Answer{Data: []byte(strings.Repeat("d", api.MaxData))}}, {"ok text " + strings.Repeat("t", 1500), api.Answer{Text: strings.Repeat("t", 1500)}},
	} {
		if s, e := Reply(c.a); s != c.s || e != api.OK {
			t.Error(c, s, e)
		}
		if a, e := Read(c.s); e != api.OK || !reflect.DeepEqual(a, c.a) {
			t.Error(c, a, e)
		}
	}
	for i, a := range []api.Answer{{Code: -1}, {Code: 1000}, {Code: 1, Data: []byte{1}}, {Code: 1, Text: "x"}, {Data: []byte{1}, Text: "x"}, {Data: make([]byte, api.MaxData+1)}, {Text: strings.Repeat("t", 1501)}} {
		if s, e := Reply(a); e != api.ErrInvalid || s != "" {
			t.Error(i, s, e)
		}
	}
	if s, e := Reply(api.Answer{Code: 7, Data: []byte{}}); s != "error 7" || e != api.OK {
		t.Error(s, e)
	}
	long, _ := words.Join([]string{"ok", "text", strings.Repeat("t", 1501)})
	for _, s := range []string{"", "OK", "ok ", "ok data", `ok data ""`, `ok text ""`, "ok a", "ok blob abc", "ok data a b", "error", "error 0", "error -1", "error 1000", "error 01", "error x", "error 1 2", "fine", "no data x", "no text x", "ok data " + strings.Repeat("d", 1025), long} {
		if a, e := Read(s); e != api.ErrSyntax || !reflect.DeepEqual(a, api.Answer{}) {
			t.Errorf("%.40q: %v %v", s, a, e)
		}
	}
	if a, e := Read(strings.Repeat("x", api.MaxLine+1)); e != api.ErrLimit || !reflect.DeepEqual(a, api.Answer{}) {
		t.Error(a, e)
	}
}
