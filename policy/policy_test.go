package policy

import (
	"slices"
	"testing"

	"soundservice/api"
)

func sink(id uint64, class string, direction int) api.Sink {
	return api.Sink{ID: id, Class: class, Direction: direction}
}

func want(id int, role string, active bool, pinned uint64) api.Want {
	return api.Want{ID: id, Role: role, Direction: api.Playback, Active: active, Pinned: pinned}
}

func route(role, class string, cond ...api.Term) api.Rule {
	return api.Rule{Kind: api.RuleRoute, Role: role, Class: class, Cond: cond}
}

func duck(role string, percent int, cond ...api.Term) api.Rule {
	return api.Rule{Kind: api.RuleDuck, Role: role, Percent: percent, Cond: cond}
}

func mute(role string, cond ...api.Term) api.Rule {
	return api.Rule{Kind: api.RuleMute, Role: role, Cond: cond}
}

func active(name string) api.Term { return api.Term{Kind: api.TermActive, Name: name} }

func present(name string) api.Term { return api.Term{Kind: api.TermPresent, Name: name} }

var sinks = []api.Sink{sink(9, "headset", 1), sink(4, "speaker", 1), sink(2, "mic", 2), sink(7, "headset", 1), sink(0, "ghost", 1), sink(4, "desk", 1)}

// P31.1
func TestNames(t *testing.T) {
	if l := Classes(sinks); !slices.Equal(l, []string{"headset", "speaker", "mic", "ghost", "desk"}) {
		t.Error(l)
	}
	if l := Roles([]api.Want{want(1, "b", true, 0), want(2, "c", false, 0), want(3, "a", true, 0), want(4, "b", true, 0)}); !slices.Equal(l, []string{"b", "a"}) {
		t.Error(l)
	}
	if len(Classes(nil))+len(Roles(nil)) != 0 {
		t.Error("nothing")
	}
}

// P31.2
func TestDevices(t *testing.T) {
	memory := api.Memory{Choices: []api.Choose{{Role: "music", Set: []uint64{4, 7, 9}, Device: 7}, {Role: "voice", Set: []uint64{2}, Device: 2}}}
	broken := api.Memory{Choices: append(memory.Choices, memory.Choices[0])}
	for i, c := range []struct {
		rules      []api.Rule
		m          api.Memory
		w          api.Want
		device     uint64
		by, number int
	}{
		{nil, api.Memory{}, want(1, "x", true, 0), 4, api.ByDefault, -1},
		{nil, api.Memory{}, want(1, "x", true, 9), 9, api.ByPin, -1},
		{nil, api.Memory{}, want(1, "x", true, 2), 4, api.ByDefault, -1}, // of another direction
		{nil, api.Memory{}, want(1, "x", true, 5), 4, api.ByDefault, -1},
		{nil, memory, want(1, "music", true, 0), 7, api.ByChoice, -1},
		{nil, memory, want(1, "music", true, 9), 9, api.ByPin, -1},
		{nil, broken, want(1, "music", true, 0), 4, api.ByDefault, -1},
		{nil, memory, want(1, "voice", true, 0), 4, api.ByDefault, -1}, // 2 is no candidate
		{[]api.Rule{route("any", "headset")}, memory, want(1, "music", true, 0), 7, api.ByChoice, -1},
		{[]api.Rule{route("any", "headset")}, api.Memory{}, want(1, "music", true, 0), 7, api.ByRule, 0},
		{[]api.Rule{route("any", "mic"), route("voice", "desk"), duck("any", 5), route("music", "headset"), route("any", "speaker")}, api.Memory{}, want(1, "music", true, 0), 7, api.ByRule, 3},
		{[]api.Rule{route("any", "ghost"), route("music", "any")}, api.Memory{}, want(1, "music", true, 0), 4, api.ByRule, 1},
		{[]api.Rule{route("music", "headset", active("voice")), route("music", "desk", active("music"))}, api.Memory{}, want(1, "music", true, 0), 4, api.ByRule, 1},
		{[]api.Rule{route("music", "headset", present("mic")), route("music", "desk")}, api.Memory{}, want(1, "music", false, 0), 7, api.ByRule, 0},
		{[]api.Rule{route("music", "headset", active("music"))}, api.Memory{}, want(1, "music", false, 0), 4, api.ByDefault, -1},
		{[]api.Rule{{Kind: api.RuleRoute, Role: "any", Class: "headset", Percent: 3}, {Kind: 7, Role: "any", Class: "headset"}}, api.Memory{}, want(1, "music", false, 0), 4, api.ByDefault, -1}, // not valid
	} {
		d := Decide(c.rules, c.m, []api.Want{c.w}, sinks)
		if len(d) != 1 || d[0].ID != c.w.ID || d[0].Device != c.device || d[0].By != c.by || d[0].Rule != c.number {
			t.Error(i, d)
		}
		turned := slices.Clone(sinks)
		slices.Reverse(turned)
		if x := Decide(c.rules, c.m, []api.Want{c.w}, turned); !slices.Equal(x, d) {
			t.Error("the order of the sinks", i, x)
		}
	}
	for _, none := range [][]api.Sink{nil, {sink(0, "a", 1)}, {sink(3, "a", 2)}} {
		if d := Decide([]api.Rule{route("any", "any")}, memory, []api.Want{want(5, "music", true, 3)}, none); !slices.Equal(d, []api.Decision{{ID: 5, Rule: -1, Gain: api.Unit, Lower: -1}}) {
			t.Error(d)
		}
	}
}

// P31.2: one decision for each stream, in order.
func TestStreams(t *testing.T) {
	record := want(2, "voice", true, 0)
	record.Direction = api.Capture
	d := Decide([]api.Rule{route("music", "headset", active("voice"))}, api.Memory{}, []api.Want{want(8, "music", false, 0), record, want(8, "other", false, 9)}, sinks)
	if len(d) != 3 || d[0].ID != 8 || d[0].Device != 7 || d[1].ID != 2 || d[1].Device != 2 || d[2].Device != 9 {
		t.Error(d)
	}
	if len(Decide(nil, api.Memory{}, nil, sinks)) != 0 {
		t.Error("no streams")
	}
}

// P31.3
func TestGains(t *testing.T) {
	for i, c := range []struct {
		rules       []api.Rule
		gain, lower int
	}{
		{nil, api.Unit, -1}, {[]api.Rule{route("any", "headset")}, api.Unit, -1}, {[]api.Rule{duck("any", 100)}, api.Unit, 0}, {[]api.Rule{duck("voice", 5), duck("music", 50)}, 32768, 1}, {[]api.Rule{duck("any", 33)}, 21626, 0},
		{[]api.Rule{duck("any", 50), duck("any", 20), duck("music", 20), duck("any", 30)}, 13107, 1}, {[]api.Rule{duck("any", 0), mute("any")}, 0, 0}, {[]api.Rule{duck("any", 9), mute("music")}, 0, 1},
		{[]api.Rule{mute("music", active("voice"))}, api.Unit, -1}, {[]api.Rule{mute("music", present("mic"))}, 0, 0}, {[]api.Rule{duck("any", 101), duck("any", -1), {Kind: api.RuleMute, Role: "any", Class: "x"}, duck("any", 70)}, 45875, 3},
	} {
		d := Decide(c.rules, api.Memory{}, []api.Want{want(1, "music", true, 0)}, sinks)
		if d[0].Gain != c.gain || d[0].Lower != c.lower {
			t.Error(i, d)
		}
	}
}
