package words

import (
	"slices"
	"strconv"
	"strings"
	"testing"

	"soundservice/api"
)

// P2.1
func TestSplit(t *testing.T) {
	for _, c := range []struct {
		s string
		l []string
		e api.Errno
	}{
		{"", nil, api.OK},
		{`play "a b" 3`, []string{"play", "a b", "3"}, api.OK},
		{`""`, []string{""}, api.OK},
		{`"" ""`, []string{"", ""}, api.OK},
		{`"\"\\\n\r"`, []string{"\"\\\n\r"}, api.OK},
		{"\"\x00\t\x7f\xff\"", []string{"\x00\t\x7f\xff"}, api.OK},
		{"!~ a'b", []string{"!~", "a'b"}, api.OK},
		{" ", nil, api.ErrSyntax},
		{" a", nil, api.ErrSyntax},
		{"a ", nil, api.ErrSyntax},
		{"a  b", nil, api.ErrSyntax},
		{`"a" `, nil, api.ErrSyntax},
		{`a"b`, nil, api.ErrSyntax},
		{`a"b"`, nil, api.ErrSyntax},
		{`"a"b`, nil, api.ErrSyntax},
		{`"a""b"`, nil, api.ErrSyntax},
		{`a\b`, nil, api.ErrSyntax},
		{`\n`, nil, api.ErrSyntax},
		{`"a`, nil, api.ErrSyntax},
		{`"`, nil, api.ErrSyntax},
		{`"a\`, nil, api.ErrSyntax},
		{`"a\"`, nil, api.ErrSyntax},
		{`"\t"`, nil, api.ErrSyntax},
		{"\"a\nb\"", nil, api.ErrSyntax},
		{"\"a\rb\"", nil, api.ErrSyntax},
		{"a\tb", nil, api.ErrSyntax},
		{"a\x7f", nil, api.ErrSyntax},
		{"\x7f", nil, api.ErrSyntax},
		{"\xc3\xa4", nil, api.ErrSyntax},
		{"a\n", nil, api.ErrSyntax},
	} {
		if l, e := Split(c.s); !slices.Equal(l, c.l) || e != c.e {
			t.Errorf("%q: %q %v", c.s, l, e)
		}
	}
}

// P2.1: limits, and the order of errors.
func TestSplitLimits(t *testing.T) {
	long := strings.Repeat("a", api.MaxLine)
	if l, e := Split(long); e != api.OK || len(l) != 1 {
		t.Error(len(l), e)
	}
	if _, e := Split(long + "\n"); e != api.ErrLimit {
		t.Error(e)
	}
	many := strings.TrimSuffix(strings.Repeat("w ", api.MaxWords), " ")
	if l, e := Split(many); e != api.OK || len(l) != api.MaxWords {
		t.Error(len(l), e)
	}
	if l, e := Split(many + " w"); e != api.ErrLimit || l != nil {
		t.Error(len(l), e)
	}
	if _, e := Split(many + " w "); e != api.ErrSyntax {
		t.Error(e)
	}
}

// P2.2
func TestJoin(t *testing.T) {
	for _, c := range []struct {
		l []string
		s string
	}{
		{nil, ""},
		{[]string{"a", ""}, `a ""`},
		{[]string{"a b", "3"}, `"a b" 3`},
		{[]string{"\"", "\\", "\n\r", "\xff"}, `"\"" "\\" "\n\r" "` + "\xff\""},
		{[]string{"a~!", "\x7f"}, "a~! \"\x7f\""},
	} {
		if s, e := Join(c.l); s != c.s || e != api.OK {
			t.Errorf("%q: %q %v", c.l, s, e)
		}
		if l, e := Split(c.s); !slices.Equal(l, c.l) || e != api.OK {
			t.Errorf("%q: %q %v", c.s, l, e)
		}
	}
}

// P2.2: limits.
func TestJoinLimits(t *testing.T) {
	words := make([]string, api.MaxWords+1)
	if s, e := Join(words); e != api.ErrLimit || s != "" {
		t.Error(s, e)
	}
	if _, e := Join(words[:api.MaxWords]); e != api.OK {
		t.Error(e)
	}
	for _, c := range []struct {
		l []string
		e api.Errno
	}{
		{[]string{strings.Repeat("a", api.MaxLine)}, api.OK},
		{[]string{strings.Repeat("a", api.MaxLine+1)}, api.ErrLimit},
		{[]string{strings.Repeat("a", api.MaxLine-1), ""}, api.ErrLimit},
		{[]string{strings.Repeat(" ", api.MaxLine-2)}, api.OK},
		{[]string{strings.Repeat(" ", api.MaxLine-1)}, api.ErrLimit},
		{[]string{strings.Repeat("\n", api.MaxLine/2-1)}, api.OK},
		{[]string{strings.Repeat("\n", api.MaxLine/2)}, api.ErrLimit},
	} {
		if _, e := Join(c.l); e != c.e {
			t.Error(len(c.l[0]), e)
		}
	}
}

// P2.3
func TestNumber(t *testing.T) {
	for _, c := range []struct {
		s string
		n int
		e api.Errno
	}{
		{"0", 0, api.OK}, {"7", 7, api.OK}, {"-7", -7, api.OK}, {"1002", 1002, api.OK},
		{"9007199254740992", 1 << 53, api.OK}, {"-9007199254740992", -1 << 53, api.OK},
		{"9007199254740993", 0, api.ErrRange}, {"-9007199254740993", 0, api.ErrRange},
		{strings.Repeat("9", 100), 0, api.ErrRange}, {strings.Repeat("9", 100) + "x", 0, api.ErrSyntax},
		{"", 0, api.ErrSyntax}, {"-", 0, api.ErrSyntax}, {"-0", 0, api.ErrSyntax}, {"00", 0, api.ErrSyntax},
		{"01", 0, api.ErrSyntax}, {"-01", 0, api.ErrSyntax}, {"+1", 0, api.ErrSyntax}, {"--1", 0, api.ErrSyntax},
		{"1 ", 0, api.ErrSyntax}, {"1a", 0, api.ErrSyntax}, {"1_0", 0, api.ErrSyntax}, {"0x1", 0, api.ErrSyntax},
	} {
		if n, e := Number(c.s); n != c.n || e != c.e {
			t.Errorf("%q: %v %v", c.s, n, e)
		}
	}
}

// P2.3
func TestFormat(t *testing.T) {
	for _, n := range []int{0, 1, -1, 10, 1 << 53, -1 << 53, 1<<63 - 1, -1 << 63} {
		if Format(n) != strconv.FormatInt(int64(n), 10) {
			t.Error(n, Format(n))
		}
	}
}

// P2.4
func TestName(t *testing.T) {
	for _, s := range []string{"a", "z", "A", "Z", "a0-._Z", "xazAZ09", strings.Repeat("n", api.MaxName)} {
		if !Name(s) {
			t.Error(s)
		}
	}
	for _, s := range []string{"", "0a", "-a", ".a", "_a", "a b", "a\x00", "\xc3\xa4", "a/", "a:", "a@", "a[", "a`", "a{", "@", "[", "`", "{", strings.Repeat("n", api.MaxName+1)} {
		if Name(s) {
			t.Error(s)
		}
	}
}
