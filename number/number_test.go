package number

import (
	"math"
	"slices"
	"strconv"
	"testing"
)

func TestWithin(t *testing.T) {
	for _, c := range []struct {
		n, low, high int
		want         bool
	}{
		{3, 1, 5, true}, {1, 1, 5, true}, {5, 1, 5, true}, {0, 1, 5, false}, {6, 1, 5, false},
		{2, 2, 2, true}, {2, 3, 1, false}, {math.MinInt, 0, 1, false}, {math.MaxInt, 0, 1, false},
	} {
		if got := Within(c.n, c.low, c.high); got != c.want {
			t.Errorf("Within(%d, %d, %d): %v, want %v", c.n, c.low, c.high, got, c.want)
		}
	}
}

func TestParseReadsWhatItoaWrites(t *testing.T) {
	for _, n := range []int{0, 1, -1, 7, 10, 1000000, -1000000, math.MaxInt, math.MinInt} {
		if got, ok := Parse(strconv.Itoa(n)); got != n || !ok {
			t.Errorf("Parse of %d: %d, %v", n, got, ok)
		}
	}
}

func TestParseTakesNothingElse(t *testing.T) {
	for _, s := range []string{"", " ", "07", "00", "-0", "+1", "-", "--1", "1 ", " 1", "1_000", "0x1", "1e3", "1.0", "one", "\u0661", "99999999999999999999", "-99999999999999999999"} {
		if got, ok := Parse(s); got != 0 || ok {
			t.Errorf("Parse(%q): %d, %v", s, got, ok)
		}
	}
}

func TestRows(t *testing.T) {
	for _, c := range []struct {
		s, word string
		l       []int
	}{
		{"tx 7", "tx", []int{7}}, {"in 3 -1", "in", []int{3, -1}}, {"a 0 1 2 3", "a", []int{0, 1, 2, 3}}, {"none", "none", nil},
	} {
		if s := PrintRow(c.word, c.l...); s != c.s {
			t.Errorf("PrintRow(%q, %v): %q, want %q", c.word, c.l, s, c.s)
		}
		if l, ok := ParseRow(c.s, c.word, len(c.l)); !slices.Equal(l, c.l) || !ok {
			t.Errorf("ParseRow(%q): %v, %v, want %v", c.s, l, ok, c.l)
		}
	}
}

func TestParseRowTakesNothingElse(t *testing.T) {
	for _, s := range []string{"", " ", "in", "in ", "in 1", "in 1 ", "in 1 2 ", "in 1 2 3", " in 1 2", "in  1 2", "in 1  2", "in 01 2", "in 1 x", "in\t1 2", "in 1\n2", "out 1 2", "In 1 2", "inn 1 2", "1 2"} {
		if l, ok := ParseRow(s, "in", 2); l != nil || ok {
			t.Errorf("ParseRow(%q): %v, %v", s, l, ok)
		}
	}
}
