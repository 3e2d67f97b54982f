package rules

import (
	"reflect"
	"slices"
	"strings"
	"testing"

	"soundservice/api"
)

func active(name string) api.Term  { return api.Term{Kind: api.TermActive, Name: name} }
func present(name string) api.Term { return api.Term{Kind: api.TermPresent, Name: name} }

var not, and, or = api.Term{Kind: api.TermNot}, api.Term{Kind: api.TermAnd}, api.Term{Kind: api.TermOr}

func mute(cond ...api.Term) api.Rule {
	return api.Rule{Kind: api.RuleMute, Role: "r", Cond: cond}
}

func repeat(t api.Term, n int) []api.Term {
	var l []api.Term
	for range n {
		l = append(l, t)
	}
	return l
}

var improper = [][]api.Term{
	{not}, {and}, {active("a"), and}, {active("a"), active("b")}, {active("a"), or, active("b")}, {active("")}, {active("1")}, {present("a b")}, {{Kind: 0, Name: "a"}}, {{Kind: 6}}, {{Kind: -1}},
	{active("a"), {Kind: 0}}, {active("a"), {Kind: 6}}, {active("a"), active("b"), {Kind: -1}}, {active("a"), {Kind: api.TermNot, Name: "x"}}, {active("a"), active("b"), {Kind: api.TermAnd, Name: "x"}}, append([]api.Term{active("a")}, repeat(not, 16)...), {active("a"), active("b"), and, and},
}

// P29.1
func TestValid(t *testing.T) {
	for i, r := range []api.Rule{
		mute(), mute(active("a")), mute(append([]api.Term{active("a")}, repeat(not, 15)...)...), mute(active("a"), present("b"), not, and, active("any"), or),
		{Kind: api.RuleRoute, Role: "any", Class: "c"}, {Kind: api.RuleDuck, Role: "r", Percent: 0}, {Kind: api.RuleDuck, Role: "r", Percent: 100},
	} {
		if !Valid(r) {
			t.Error(i)
		}
	}
	for i, r := range []api.Rule{
		{}, {Kind: 0, Role: "r"}, {Kind: 4, Role: "r"}, {Kind: api.RuleMute}, {Kind: api.RuleMute, Role: "1"}, {Kind: api.RuleMute, Role: "r", Class: "c"}, {Kind: api.RuleMute, Role: "r", Percent: 1},
		{Kind: api.RuleRoute, Role: "r"}, {Kind: api.RuleRoute, Role: "r", Class: "-"}, {Kind: api.RuleRoute, Role: "r", Class: "c", Percent: 1}, {Kind: api.RuleRoute, Role: "", Class: "c"},
		{Kind: api.RuleDuck, Role: "r", Percent: -1}, {Kind: api.RuleDuck, Role: "r", Percent: 101}, {Kind: api.RuleDuck, Role: "r", Class: "c"},
	} {
		if Valid(r) {
			t.Error(i)
		}
	}
	for i, cond := range improper {
		if Valid(mute(cond...)) {
			t.Error(i)
		}
	}
}

// P29.1
func TestParse(t *testing.T) {
	duck := api.Rule{Kind: api.RuleDuck, Role: "music", Percent: 20, Cond: []api.Term{active("voice"), present("headset"), not, and}}
	for _, c := range []struct {
		s string
		l []api.Rule
		n int
		e api.Errno
	}{
		{"", nil, 0, api.OK}, {"\n", nil, 1, api.OK}, {"\n\n#x\n# \x00\"\n", nil, 4, api.OK},
		{"duck music 20 when active voice and not present headset", []api.Rule{duck}, 1, api.OK},
		{"# a\nroute any head.set\n\nmute \"r\"\n", []api.Rule{{Kind: api.RuleRoute, Role: "any", Class: "head.set"}, mute()}, 4, api.OK},
		{"mute r when active a or active b and active c", []api.Rule{mute(active("a"), active("b"), active("c"), and, or)}, 1, api.OK},
		{"mute r when ( active a or active b ) and active c", []api.Rule{mute(active("a"), active("b"), or, active("c"), and)}, 1, api.OK},
		{"mute r when active a or active b or active c", []api.Rule{mute(active("a"), active("b"), or, active("c"), or)}, 1, api.OK},
		{"mute r when active a and ( present b and present c )", []api.Rule{mute(active("a"), present("b"), present("c"), and, and)}, 1, api.OK},
		{"mute r when not not ( active any )", []api.Rule{mute(active("any"), not, not)}, 1, api.OK},
		{"mute r when not ( active a or present b )", []api.Rule{mute(active("a"), present("b"), or, not)}, 1, api.OK},
		{"mute r when not active a or present b", []api.Rule{mute(active("a"), not, present("b"), or)}, 1, api.OK},
		{"mute when", []api.Rule{{Kind: api.RuleMute, Role: "when"}}, 1, api.OK},
		{"mute r\n\nmute r when\n", nil, 2, api.ErrSyntax}, {" mute r", nil, 0, api.ErrSyntax}, {"mute r\r\n", nil, 0, api.ErrSyntax}, {"mute", nil, 0, api.ErrSyntax}, {"mute 1", nil, 0, api.ErrSyntax}, {"mute r x", nil, 0, api.ErrSyntax}, {"route r", nil, 0, api.ErrSyntax}, {"route r c 5", nil, 0, api.ErrSyntax}, {"route r when active x", nil, 0, api.ErrSyntax},
		{"duck r", nil, 0, api.ErrSyntax}, {"duck r x", nil, 0, api.ErrSyntax}, {"duck r 101", nil, 0, api.ErrSyntax}, {"duck r -1", nil, 0, api.ErrSyntax}, {"duck r 05", nil, 0, api.ErrSyntax}, {"duck r 9007199254740993", nil, 0, api.ErrSyntax}, {"Mute r", nil, 0, api.ErrSyntax}, {"hush r", nil, 0, api.ErrSyntax},
		{"mute r when active", nil, 0, api.ErrSyntax}, {"mute r when active 1", nil, 0, api.ErrSyntax}, {"mute r when a", nil, 0, api.ErrSyntax}, {"mute r when active a b", nil, 0, api.ErrSyntax}, {"mute r when active a and", nil, 0, api.ErrSyntax}, {"mute r when and active a", nil, 0, api.ErrSyntax}, {"mute r when not", nil, 0, api.ErrSyntax},
		{"mute r when ( active a", nil, 0, api.ErrSyntax}, {"mute r when active a )", nil, 0, api.ErrSyntax}, {"mute r when ( )", nil, 0, api.ErrSyntax}, {"mute r when (active a)", nil, 0, api.ErrSyntax}, {"mute r when active a when active b", nil, 0, api.ErrSyntax},
		{"#\n" + strings.Repeat("x", api.MaxLine+1), nil, 1, api.ErrLimit}, {"mute r" + strings.Repeat(" x", api.MaxWords), nil, 0, api.ErrLimit}, {"#" + strings.Repeat("x", api.MaxLine+1), nil, 1, api.OK},
	} {
		l, n, e := Parse(c.s)
		if !Same(l, c.l) || n != c.n || e != c.e || e != api.OK && l != nil {
			t.Errorf("%.60q: %v %v %v", c.s, l, n, e)
		}
	}
}

// P29.1: limits, and the order of errors.
func TestParseLimits(t *testing.T) {
	if _, n, e := Parse(strings.Repeat("\n", api.MaxText)); n != api.MaxText || e != api.OK {
		t.Error(n, e)
	}
	if l, n, e := Parse("x\n" + strings.Repeat("\n", api.MaxText)); l != nil || n != 0 || e != api.ErrLimit {
		t.Error(l, n, e)
	}
	most := "mute r when " + strings.Repeat("not ", 15) + "active a"
	if l, _, e := Parse(most); e != api.OK || len(l[0].Cond) != api.MaxTerms {
		t.Error(l, e)
	}
	more := "mute r when " + strings.Repeat("not ", 16) + "active a"
	for s, want := range map[string]api.Errno{more: api.ErrLimit, more + " x": api.ErrSyntax, more + " and": api.ErrSyntax, "duck r 101" + more[6:]: api.ErrSyntax} {
		if l, n, e := Parse(s); l != nil || n != 0 || e != want {
			t.Error(s, l, n, e)
		}
	}
	full := strings.Repeat("mute r\n", api.MaxRules)
	if l, n, e := Parse(full + "#\n\n"); len(l) != api.MaxRules || n != api.MaxRules+2 || e != api.OK {
		t.Error(n, e)
	}
	for s, want := range map[string]api.Errno{"mute r": api.ErrLimit, "mute": api.ErrSyntax, more: api.ErrLimit} {
		if l, n, e := Parse(full + "\n" + s); l != nil || n != api.MaxRules+1 || e != want {
			t.Error(s, l, n, e)
		}
	}
}

// P29.2
func TestFormat(t *testing.T) {
	a, b, c := active("a"), active("b"), present("c")
	for _, k := range []struct {
		r api.Rule
		s string
	}{
		{api.Rule{Kind: api.RuleRoute, Role: "any", Class: "x"}, "route any x"}, {api.Rule{Kind: api.RuleDuck, Role: "any", Percent: 7}, "duck any 7"}, {mute(), "mute r"},
		{mute(a), "mute r when active a"}, {mute(c, not, not), "mute r when not not present c"},
		{mute(a, b, and, c, and), "mute r when active a and active b and present c"}, {mute(a, b, c, and, and), "mute r when active a and ( active b and present c )"},
		{mute(a, b, or, c, or), "mute r when active a or active b or present c"}, {mute(a, b, c, or, or), "mute r when active a or ( active b or present c )"},
		{mute(a, b, or, c, and), "mute r when ( active a or active b ) and present c"}, {mute(a, b, and, c, or), "mute r when active a and active b or present c"}, {mute(a, b, c, and, or), "mute r when active a or ( active b and present c )"},
		{mute(a, b, and, not), "mute r when not ( active a and active b )"}, {mute(a, not, b, not, or), "mute r when not active a or not active b"}, {mute(a, b, or, not, c, and), "mute r when not ( active a or active b ) and present c"},
	} {
		if s, e := Format([]api.Rule{k.r}); e != api.OK || s != k.s+"\n" {
			t.Error(k, s, e)
		}
	}
	if s, e := Format([]api.Rule{mute(), mute(a)}); e != api.OK || s != "mute r\nmute r when active a\n" {
		t.Error(s, e)
	}
	if s, e := Format(nil); e != api.OK || s != "" {
		t.Error(s, e)
	}
	if s, e := Format(slices.Repeat([]api.Rule{mute()}, api.MaxRules)); e != api.OK || s != strings.Repeat("mute r\n", api.MaxRules) {
		t.Error(len(s), e)
	}
	if s, e := Format(make([]api.Rule, api.MaxRules+1)); e != api.ErrLimit || s != "" {
		t.Error(s, e)
	}
	if s, e := Format(append(make([]api.Rule, 0), mute(), api.Rule{})); e != api.ErrInvalid || s != "" {
		t.Error(s, e)
	}
}

// P29.1, P29.2: what was written is read again.
func TestRoundTrip(t *testing.T) {
	seed := uint32(3)
	below := func(n int) int {
		seed = seed*1664525 + 1013904223
		return int(seed>>16) % n
	}
	for range 500 {
		var l []api.Rule
		for range below(5) {
			var cond []api.Term
			depth := 0
			for len(cond) < 14-depth {
				switch k := below(5); {
				case k < 2 || depth == 0:
					cond = append(cond, api.Term{Kind: api.TermActive + below(2), Name: strings.Repeat("n", 1+below(64))})
					depth++
				case k == 2:
					cond = append(cond, not)
				case depth > 1:
					cond = append(cond, api.Term{Kind: api.TermAnd + below(2)})
					depth--
				}
			}
			for ; depth > 1; depth-- {
				cond = append(cond, api.Term{Kind: api.TermAnd + below(2)})
			}
			l = append(l, mute(cond...))
		}
		s, e := Format(l)
		back, n, f := Parse(s)
		if e != api.OK || f != api.OK || n != len(l) || !Same(back, l) {
			t.Fatal(s, e, f, back, l)
		}
	}
}

// P29.3
func TestHolds(t *testing.T) {
	on, here := []string{"a", "b"}, []string{"c"}
	for i, c := range []struct {
		cond []api.Term
		want bool
	}{
		{nil, true}, {[]api.Term{active("a")}, true}, {[]api.Term{active("c")}, false}, {[]api.Term{present("c")}, true}, {[]api.Term{present("a")}, false}, {[]api.Term{active("any")}, true}, {[]api.Term{present("any")}, true},
		{[]api.Term{active("a"), not}, false}, {[]api.Term{active("x"), not}, true}, {[]api.Term{active("a"), present("x"), and}, false}, {[]api.Term{active("a"), present("x"), or}, true}, {[]api.Term{active("a"), present("c"), and}, true}, {[]api.Term{active("x"), present("x"), or}, false},
		{[]api.Term{active("x"), active("x"), active("a"), or, or}, true},
	} {
		if Holds(c.cond, on, here) != c.want {
			t.Error(i)
		}
	}
	if Holds([]api.Term{active("any")}, nil, here) || Holds([]api.Term{present("any")}, on, nil) || !Holds([]api.Term{active("any")}, []string{"any"}, nil) {
		t.Error("any")
	}
	for i, cond := range improper {
		if Holds(cond, []string{"a", "b", "", "1"}, []string{"a b"}) {
			t.Error(i)
		}
	}
}

// P29.3
func TestSame(t *testing.T) {
	a := mute(active("a"), not)
	if !Same(nil, []api.Rule{}) || !Same([]api.Rule{a}, []api.Rule{mute(active("a"), not)}) || !Same([]api.Rule{{Cond: nil}}, []api.Rule{{Cond: []api.Term{}}}) || Same([]api.Rule{a}, nil) || Same([]api.Rule{a, a}, []api.Rule{a}) {
		t.Error("Same")
	}
	for _, change := range []func(*api.Rule){
		func(r *api.Rule) { r.Kind++ }, func(r *api.Rule) { r.Role = "x" }, func(r *api.Rule) { r.Class = "x" }, func(r *api.Rule) { r.Percent++ }, func(r *api.Rule) { r.Cond = r.Cond[:1] }, func(r *api.Rule) { r.Cond = []api.Term{active("b"), not} },
	} {
		b := mute(active("a"), not)
		change(&b)
		if Same([]api.Rule{a}, []api.Rule{b}) || reflect.DeepEqual(a, b) {
			t.Error(b)
		}
	}
}
