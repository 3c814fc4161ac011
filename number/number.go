// Package number: what all layers ask of numbers, in bounds and in texts.
package number

import (
	"strconv"
	"strings"
)

// Within tells whether n is from low to high.
func Within(n, low, high int) bool { return low <= n && n <= high }

// Parse reads a number back that strconv.Itoa wrote, and nothing else.
func Parse(s string) (int, bool) {
	n, err := strconv.Atoi(s)
	// Atoi also takes signs and zeros ahead, by which one number would have many texts.
	if err != nil || strconv.Itoa(n) != s {
		return 0, false
	}
	return n, true
}

// PrintRow writes a word and numbers behind it, a blank ahead of each.
func PrintRow(word string, l ...int) string {
	row := word
	for _, n := range l {
		row += " " + strconv.Itoa(n)
	}
	return row
}

// ParseRow reads so many numbers back that PrintRow wrote behind this word.
func ParseRow(s, word string, count int) ([]int, bool) {
	words := strings.Split(s, " ")
	if words[0] != word || len(words) != count+1 {
		return nil, false
	}
	l := make([]int, count)
	for i := range count {
		n, ok := Parse(words[i+1])
		if !ok {
			return nil, false
		}
		l[i] = n
	}
	return l, true
}
