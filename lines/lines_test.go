package lines

import (
	"slices"
	"testing"
)

// P29.1, P45.1: which lines there are.
func TestLines(t *testing.T) {
	for _, c := range []struct {
		s       string
		numbers []int
		lines   []string
		count   int
	}{
		{"", nil, nil, 0}, {"\n", nil, nil, 1}, {"a", []int{0}, []string{"a"}, 1}, {"a\n", []int{0}, []string{"a"}, 1}, {"a\nb", []int{0, 1}, []string{"a", "b"}, 2}, {"\n#x\n a\n\n", []int{2}, []string{" a"}, 4}, {"a\n#", []int{0}, []string{"a"}, 2}, {"a\r\n", []int{0}, []string{"a\r"}, 1},
	} {
		var numbers []int
		var l []string
		for n, line := range Of(c.s) {
			numbers, l = append(numbers, n), append(l, line)
		}
		if !slices.Equal(numbers, c.numbers) || !slices.Equal(l, c.lines) || Count(c.s) != c.count {
			t.Errorf("%q: %v %q %d", c.s, numbers, l, Count(c.s))
		}
	}
	for n := range Of("a\nb\nc") {
		if n > 0 {
			t.Error("the loop was left")
		}
		break
	}
}
