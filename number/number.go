// Package number: what all layers ask of numbers, in bounds and in texts.
package number

import "strconv"

// Within tells whether n is from low to high.
func Within(n, low, high int) bool { return low <= n && n <= high }

// Parse reads a number back that strconv.Itoa wrote, and nothing else.
func Parse(s string) (int, bool) {
	n, err := strconv.Atoi(s)
	// Atoi also takes signs and zeros ahead, by which one number would have many texts.
	if err != nil || strconv.Itoa(n) != s {
		return 0, false
	}
	return n, true
}
