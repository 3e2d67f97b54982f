// Package lines goes through texts that consist of lines.
package lines

import "strings"

// Of goes through the lines of a text that can mean something, with their numbers: those that are not empty and do not begin with #. A line ends with a line feed; the last one need not.
func Of(s string) func(yield func(int, string) bool) {
	return func(yield func(int, string) bool) {
		for number := 0; s != ""; number++ {
			line, rest, _ := strings.Cut(s, "\n")
			s = rest
			if line != "" && line[0] != '#' && !yield(number, line) {
				return
			}
		}
	}
}

// Count returns the number of all lines of a text.
func Count(s string) int {
	n := strings.Count(s, "\n")
	if s != "" && !strings.HasSuffix(s, "\n") {
		n++
	}
	return n
}
