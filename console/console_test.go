package console

import (
	"reflect"
	"slices"
	"strconv"
	"strings"
	"testing"

	"soundservice/api"
	"soundservice/descriptor"
	"soundservice/wire"
	"soundservice/words"
	"soundservice/world"
)

func setup() api.Setup {
	return api.Setup{Rate: 48000, Period: 64, Workers: 2, Capacity: 100000, Settle: 1, Fade: 3, Slope: api.Slope{Attack: 65536, Release: 65536}, Threshold: 8000000, Release: 1000}
}

func describes(id uint64) api.Descriptor {
	spans := func(lo, hi int) api.IntSet { return api.IntSet{Spans: []api.Span{{Lo: lo, Hi: hi}}} }
	return api.Descriptor{ID: id, Name: "d", Direction: api.Playback, Latency: 10, Drift: 20, Boxes: []api.Box{{Kinds: 254, Rates: spans(48000, 48000), Maps: [][]int{{3}, {1, 2}}, Sizes: spans(1, 4096)}}}
}

func clockOf(n ...int64) api.Clock {
	var c api.Clock
	for i := 0; i < len(n); i += 3 {
		c.Segments = append(c.Segments, api.Segment{From: n[i], Rate: api.Ratio{Num: n[i+1], Den: n[i+2]}})
	}
	return c
}

// word is a descriptor as a word of a line.
func word(d api.Descriptor) string {
	b, _ := descriptor.Encode(d)
	s, _ := words.Join([]string{string(b)})
	return s
}

var start = api.Request{Kind: api.ReqStart, ID: 7}

// pairs of lines and acts.
func pairs() []struct {
	s string
	a api.Act
} {
	return []struct {
		s string
		a api.Act
	}{
		{"0 send start 7", api.Act{Kind: api.ActSend, Request: start}},
		{"0 plug " + word(describes(5)) + " 0 1 1", api.Act{Kind: api.ActPlug, Descriptor: describes(5), Clock: clockOf(0, 1, 1)}},
		{"1 plug " + word(describes(1<<64-1)) + " 0 147 160 640 1 1 1099511627776 1024 1", api.Act{At: 1, Kind: api.ActPlug, Descriptor: describes(1<<64 - 1), Clock: clockOf(0, 147, 160, 640, 1, 1, 1<<40, 1024, 1)}},
		{"3 unplug 9007199254740992", api.Act{At: 3, Kind: api.ActUnplug, Device: 1 << 53}},
		{"3 die 0", api.Act{At: 3, Kind: api.ActDie}},
		{"3 feed 7 64", api.Act{At: 3, Kind: api.ActFeed, ID: 7, N: 64}},
		{"9007199254740992 boot", api.Act{At: 1 << 53, Kind: api.ActBoot}},
		{`9007199254740992 send write 3 " \n"`, api.Act{At: 1 << 53, Kind: api.ActSend, Request: api.Request{Kind: api.ReqWrite, ID: 3, Data: []byte(" \n")}}},
		{`9007199254740992 send rules ""`, api.Act{At: 1 << 53, Kind: api.ActSend, Request: api.Request{Kind: api.ReqRules}}},
		{"9007199254740992 send open 3 music playback 2 48000 960", api.Act{At: 1 << 53, Kind: api.ActSend, Request: api.Request{Kind: api.ReqOpen, ID: 3, Role: "music", Direction: 1, Channels: 2, Rate: 48000, Latency: 960}}},
	}
}

// P45.1, P45.2
func TestParseAndFormat(t *testing.T) {
	all := ""
	var acts []api.Act
	for _, c := range pairs() {
		all += c.s + "\n"
		acts = append(acts, c.a)
		if l, n, e := Parse(c.s); e != api.OK || n != 1 || len(l) != 1 || !sameAct(l[0], c.a) {
			t.Error(c.s, l, n, e)
		}
	}
	if s, e := Format(acts); s != all || e != api.OK {
		t.Error(s, e)
	}
	l, n, e := Parse("# a script\n\n" + all + "#\n")
	if e != api.OK || n != len(acts)+3 || len(l) != len(acts) {
		t.Error(n, e)
	}
	for i := range l {
		if !sameAct(l[i], acts[i]) {
			t.Error(i)
		}
	}
	if l, n, e := Parse(""); e != api.OK || n != 0 || len(l) != 0 {
		t.Error(l, n, e)
	}
	if s, e := Format(nil); s != "" || e != api.OK {
		t.Error(s, e)
	}
	if l, _, e := Parse(`"3" "feed" "7" 64`); e != api.OK || !sameAct(l[0], api.Act{At: 3, Kind: api.ActFeed, ID: 7, N: 64}) {
		t.Error(l, e)
	}
}

// P45.1
func TestParseErrors(t *testing.T) {
	good := word(describes(5))
	for _, s := range []string{
		"0", "0 ", " 0 boot", "boot", "x boot", "-1 boot", "01 boot", "9007199254740993 boot", "0 Boot", "0 boot 1", "0 hop", "0 send", "0 send start", "0 send start 0", "0 send start 7 7", "0 send hop", "0 unplug", "0 unplug -1", "0 unplug 1 2", "0 die", "0 die x", "0 die 1 2", "0 feed 7", "0 feed 7 -1", "0 feed 7 64 1", "0 feed -7 64",
		"0 plug", "0 plug abc 0 1 1", `0 plug "" 0 1 1`, "0 plug " + good, "0 plug " + good + " 0 1", "0 plug " + good + " 0 1 1 5", "0 plug " + good + " 0 2 2", "0 plug " + good + " 1 1 1", "0 plug " + good + " 0 0 1", "0 plug " + good + " 0 1 -1", "0 plug " + good + " 0 1 1 0 1 1", "0 plug " + good + " 0 1 x",
		"0 boot\r", `0 boot"`, "0 boot" + strings.Repeat(" x", 64), strings.Repeat("x", api.MaxLine+1),
	} {
		if l, n, e := Parse("#\n0 boot\n" + s + "\nwrong too"); e != api.ErrSyntax || n != 2 || l != nil {
			t.Errorf("%.40q: %v %v %v", s, l, n, e)
		}
		if l, n, e := Parse(s); e != api.ErrSyntax || n != 0 || l != nil {
			t.Errorf("%.40q: %v %v %v", s, l, n, e)
		}
	}
	if l, n, e := Parse("3 boot\n\n2 boot\nx"); e != api.ErrRange || n != 2 || l != nil {
		t.Error(l, n, e)
	}
	if _, n, e := Parse("3 boot\n2 boot x"); e != api.ErrSyntax || n != 1 {
		t.Error(n, e)
	}
	full := strings.Repeat("3 boot\n", api.MaxActs)
	if l, n, e := Parse(full + "\n#\n"); e != api.OK || n != api.MaxActs+2 || len(l) != api.MaxActs {
		t.Error(n, e)
	}
	for s, want := range map[string]api.Errno{"3 boot": api.ErrLimit, "2 boot": api.ErrRange, "2 hop": api.ErrSyntax} {
		if l, n, e := Parse(full + "\n" + s); e != want || n != api.MaxActs+1 || l != nil {
			t.Error(s, n, e)
		}
	}
	if l, n, e := Parse("x\n" + strings.Repeat("\n", api.MaxText)); e != api.ErrLimit || n != 0 || l != nil {
		t.Error(n, e)
	}
	if _, n, e := Parse(strings.Repeat("\n", api.MaxText)); e != api.OK || n != api.MaxText {
		t.Error(n, e)
	}
}

// P45.2
func TestFormatErrors(t *testing.T) {
	for i, change := range []func(*api.Act){
		func(a *api.Act) { a.Kind = 0 }, func(a *api.Act) { a.Kind = 7 }, func(a *api.Act) { a.At = -1 }, func(a *api.Act) { a.At = 1<<53 + 1 }, func(a *api.Act) { a.Device = 1 }, func(a *api.Act) { a.ID = 1 }, func(a *api.Act) { a.N = 1 }, func(a *api.Act) { a.Request = start }, func(a *api.Act) { a.Request.Data = []byte{1} }, func(a *api.Act) { a.Request.Text = "x" },
		func(a *api.Act) { a.Descriptor = describes(5) }, func(a *api.Act) { a.Descriptor.Drift = 1 }, func(a *api.Act) { a.Descriptor.Boxes = make([]api.Box, 1) }, func(a *api.Act) { a.Clock = clockOf(0, 1, 1) },
		func(a *api.Act) { a.Kind = api.ActSend }, func(a *api.Act) { a.Kind, a.Request = api.ActSend, api.Request{Kind: api.ReqStart} }, func(a *api.Act) { a.Kind, a.Descriptor = api.ActPlug, describes(5) }, func(a *api.Act) { a.Kind, a.Clock = api.ActPlug, clockOf(0, 1, 1) },
		func(a *api.Act) { a.Kind, a.Descriptor, a.Clock = api.ActPlug, describes(5), clockOf(0, 2, 2) }, func(a *api.Act) { a.Kind, a.Descriptor, a.Clock, a.N = api.ActPlug, describes(5), clockOf(0, 1, 1), 1 },
		func(a *api.Act) { a.Kind, a.Device = api.ActUnplug, 1<<53+1 }, func(a *api.Act) { a.Kind, a.Device = api.ActUnplug, 1<<64-1 }, func(a *api.Act) { a.Kind, a.ID = api.ActDie, -1 }, func(a *api.Act) { a.Kind, a.N = api.ActFeed, -1 },
		func(a *api.Act) {
			a.Kind, a.Descriptor = api.ActPlug, describes(5)
			for i := range int64(30) { // more words than a line can have
				a.Clock.Segments = append(a.Clock.Segments, api.Segment{From: i, Rate: api.Ratio{Num: 1, Den: 1}})
			}
		},
	} {
		a := api.Act{Kind: api.ActBoot}
		change(&a)
		if s, e := Format([]api.Act{{Kind: api.ActBoot}, a}); e != api.ErrInvalid || s != "" {
			t.Error(i, s, e)
		}
	}
	for i, r := range []api.Request{{Kind: 1}, {ID: 1}, {Role: "a"}, {Direction: 1}, {Channels: 1}, {Rate: 1}, {Latency: 1}, {N: 1}, {Device: 1}, {Data: []byte{0}}, {Text: "a"}} {
		if s, e := Format([]api.Act{{Kind: api.ActBoot, Request: r}}); e != api.ErrInvalid || s != "" {
			t.Error(i, s, e)
		}
	}
	for i, d := range []api.Descriptor{{ID: 1}, {Name: "a"}, {Direction: 1}, {Domain: 1}, {Latency: 1}, {Drift: 1}, {Jitter: 1}, {Boxes: make([]api.Box, 1)}} {
		if s, e := Format([]api.Act{{Kind: api.ActDie, ID: 3, Descriptor: d}}); e != api.ErrInvalid || s != "" {
			t.Error(i, s, e)
		}
	}
	if s, e := Format(slices.Repeat([]api.Act{{Kind: api.ActBoot}}, api.MaxActs)); e != api.OK || s != strings.Repeat("0 boot\n", api.MaxActs) {
		t.Error(len(s), e)
	}
	if s, e := Format([]api.Act{{At: 3, Kind: api.ActBoot}, {At: 2, Kind: api.ActBoot}}); e != api.ErrInvalid || s != "" {
		t.Error(s, e)
	}
	if s, e := Format(make([]api.Act, api.MaxActs+1)); e != api.ErrLimit || s != "" {
		t.Error(s, e)
	}
	long := api.Act{Kind: api.ActSend, Request: api.Request{Kind: api.ReqRules, Text: strings.Repeat("t", 1500)}}
	var l []api.Act
	for range 44 {
		l = append(l, long)
	}
	if s, e := Format(l); e != api.ErrLimit || s != "" {
		t.Error(len(s), e)
	}
	if s, e := Format(l[:43]); e != api.OK || len(s) > api.MaxText {
		t.Error(len(s), e)
	}
	rest := api.MaxText - 43*(1500+len("0 send rules \n")) - len("0 send rules \n")
	for extra, want := range []api.Errno{api.OK, api.ErrLimit} {
		last := api.Act{Kind: api.ActSend, Request: api.Request{Kind: api.ReqRules, Text: strings.Repeat("t", rest+extra)}}
		if s, e := Format(append(l[:43:43], last)); e != want || e == api.OK && len(s) != api.MaxText {
			t.Error(len(s), e)
		}
	}
	if s, e := Format(append(l, api.Act{})); e != api.ErrInvalid || s != "" {
		t.Error(len(s), e)
	}
}

// P45.3
func TestDigestAndReport(t *testing.T) {
	b := api.Block{Channels: 2, Data: []int32{1, -1}}
	if Digest(b) != wire.Hash([]byte("\x02\x00\x00\x00\x01\x00\x00\x00\xff\xff\xff\xff")) || Digest(api.Block{}) != wire.Hash(make([]byte, 4)) || Digest(api.Block{Channels: -1}) != wire.Hash([]byte("\xff\xff\xff\xff")) {
		t.Error("Digest")
	}
	h := api.History{Moments: []api.Moment{
		{Answers: []api.Answer{{}, {Code: 3}, {Code: 4}}, Result: api.Result{At: 9, Played: []api.Played{{Device: 1<<64 - 1, Mixed: b, Block: api.Block{Channels: 1}, Lost: 3, Missing: 4}}, Heard: []api.Heard{{Stream: 5, State: 3, Device: 7, Missing: 8, Latency: 9, Granted: 10}, {Stream: 6}}, Glitches: make([]api.Glitch, 2)}},
		{},
	}}
	digest := func(b api.Block) string { return strconv.FormatUint(Digest(b), 10) }
	want := "0 2 2\n  18446744073709551615 " + digest(b) + " " + digest(api.Block{Channels: 1}) + " 3 4\n  5 3 7 8 9 10\n  6 0 0 0 0 0\n1 0 0\n"
	if got := Report(h); got != want {
		t.Errorf("%s\n%s", got, want)
	}
	if Report(api.History{}) != "" {
		t.Error("a history without moments")
	}
}

// P45.4
func TestRun(t *testing.T) {
	acts := []api.Act{
		{Kind: api.ActPlug, Descriptor: describes(5), Clock: clockOf(0, 1, 1)}, {At: 2, Kind: api.ActSend, Request: api.Request{Kind: api.ReqOpen, ID: 7, Role: "music", Direction: 1, Channels: 2, Rate: 48000, Latency: 5000}}, {At: 2, Kind: api.ActFeed, ID: 7, N: 64}, {At: 5, Kind: api.ActSend, Request: start},
	}
	script, e := Format(acts)
	h, f := world.Run(setup(), acts, 20)
	got, g := Run(setup(), script, 20)
	if e != api.OK || f != api.OK || g != api.OK || got != Report(h) || !reflect.DeepEqual(h.Service.Recorder.Last, []api.Glitch(nil)) {
		t.Error(e, f, g)
	}
	short, _ := Run(setup(), script, 10)
	if !strings.HasPrefix(got, short) || len(short) == 0 {
		t.Error("fewer quanta")
	}
	for i, c := range []struct {
		s      api.Setup
		script string
		quanta int
		e      api.Errno
	}{{api.Setup{}, "x", -1, api.ErrSyntax}, {api.Setup{}, "3 boot\n2 boot", -1, api.ErrRange}, {api.Setup{}, strings.Repeat("\n", api.MaxText+1), -1, api.ErrLimit}, {setup(), script, -1, api.ErrRange}, {setup(), script, 201, api.ErrRange}, {api.Setup{}, script, 5, api.ErrRange}} {
		if s, e := Run(c.s, c.script, c.quanta); s != "" || e != c.e {
			t.Error(i, s, e)
		}
	}
}
