package lock

import (
	"math"
	"slices"
	"strings"
	"testing"

	"cairn/api"
)

const mixOf5 = 976877

func push(l ...int) []api.Op {
	var ops []api.Op
	for _, n := range l {
		ops = append(ops, api.Op{Kind: api.Push, N: n})
	}
	return ops
}

func orders(kinds ...int) []api.Op {
	var ops []api.Op
	for _, kind := range kinds {
		ops = append(ops, api.Op{Kind: kind})
	}
	return ops
}

func then(parts ...[]api.Op) []api.Op { return slices.Concat(parts...) }

// ones is a stack of so many numbers.
func ones(count int) []int { return slices.Repeat([]int{1}, count) }

// P2.1

func TestCheckTakesOrders(t *testing.T) {
	every := orders(api.Dup, api.Swap, api.Drop, api.Add, api.Sub, api.Same, api.Less, api.Not, api.And, api.Verify, api.Height, api.Mix)
	for _, l := range [][]api.Op{
		nil, {}, push(0), push(1000000), push(-1000000), orders(api.Push), every,
		push(make([]int, api.MaxOps)...),
	} {
		if e := Check(l); e != api.OK {
			t.Errorf("Check(%v): %v", l, e)
		}
	}
}

func TestCheckRefuses(t *testing.T) {
	for _, c := range []struct {
		what string
		l    []api.Op
		want api.Errno
	}{
		{"one too many", push(make([]int, api.MaxOps+1)...), api.ErrMany},
		{"too many of no kind", make([]api.Op, api.MaxOps+1), api.ErrMany},
		{"kind 0", orders(0), api.ErrForm},
		{"kind below", orders(-1), api.ErrForm},
		{"kind above", orders(api.Mix + 1), api.ErrForm},
		{"kinds far away", orders(math.MinInt), api.ErrForm},
		{"kinds far away", orders(math.MaxInt), api.ErrForm},
		{"no kind, and a number that may not be", []api.Op{{Kind: 0, N: 1000001}}, api.ErrForm},
		{"above", push(1000001), api.ErrRange},
		{"below", push(-1000001), api.ErrRange},
		{"far above", push(math.MaxInt), api.ErrRange},
		{"far below", push(math.MinInt), api.ErrRange},
		{"last", then(push(1, 2), orders(api.Add), push(1000001)), api.ErrRange},
		{"form is first", then(orders(99), push(1000001)), api.ErrForm},
		{"range is first", then(push(1000001), orders(99)), api.ErrRange},
	} {
		if e := Check(c.l); e != c.want {
			t.Errorf("%s: Check(%v): %v, want %v", c.what, c.l, e, c.want)
		}
	}
}

func TestCheckLetsOnlyAPushHaveANumber(t *testing.T) {
	for kind := api.Dup; kind <= api.Mix; kind++ {
		for _, n := range []int{1, -1, 1000000, 1000001} {
			if e := Check([]api.Op{{Kind: kind, N: n}}); e != api.ErrRange {
				t.Errorf("kind %d, N %d: %v", kind, n, e)
			}
		}
	}
}

// P2.2

func TestRunOrders(t *testing.T) {
	for _, c := range []struct {
		what        string
		l           []api.Op
		stack, want []int
	}{
		{"nothing", nil, nil, nil},
		{"nothing on a stack", nil, []int{3, 1, 2}, []int{3, 1, 2}},
		{"push", push(5, -5), []int{1}, []int{1, 5, -5}},
		{"push edges", push(1000000, -1000000), nil, []int{1000000, -1000000}},
		{"dup", orders(api.Dup), []int{1, 2}, []int{1, 2, 2}},
		{"swap", orders(api.Swap), []int{1, 2, 3}, []int{1, 3, 2}},
		{"drop", orders(api.Drop), []int{1, 2}, []int{1}},
		{"drop the last", orders(api.Drop), []int{1}, nil},
		{"add", orders(api.Add), []int{9, 3, 4}, []int{9, 7}},
		{"add up to the edge", orders(api.Add), []int{999999, 1}, []int{1000000}},
		{"add down to the edge", orders(api.Add), []int{-999999, -1}, []int{-1000000}},
		{"sub", orders(api.Sub), []int{9, 3, 4}, []int{9, -1}},
		{"sub up to the edge", orders(api.Sub), []int{999999, -1}, []int{1000000}},
		{"sub down to the edge", orders(api.Sub), []int{-999999, 1}, []int{-1000000}},
		{"same", orders(api.Same), []int{9, 4, 4}, []int{9, 1}},
		{"not the same", orders(api.Same), []int{4, -4}, []int{0}},
		{"less", orders(api.Less), []int{9, -2, 1}, []int{9, 1}},
		{"less, but alike", orders(api.Less), []int{1, 1}, []int{0}},
		{"not less", orders(api.Less), []int{2, 1}, []int{0}},
		{"not of 0", orders(api.Not), []int{9, 0}, []int{9, 1}},
		{"not of 1", orders(api.Not), []int{1}, []int{0}},
		{"not of -2", orders(api.Not), []int{-2}, []int{0}},
		{"and", orders(api.And), []int{9, 2, -3}, []int{9, 1}},
		{"and, the first 0", orders(api.And), []int{0, 1}, []int{0}},
		{"and, the second 0", orders(api.And), []int{1, 0}, []int{0}},
		{"and, both 0", orders(api.And), []int{0, 0}, []int{0}},
		{"verify 1", orders(api.Verify), []int{9, 1}, []int{9}},
		{"verify -1", orders(api.Verify), []int{9, -1}, []int{9}},
		{"height", orders(api.Height), []int{1}, []int{1, 9}},
		{"one after the other", then(push(2), orders(api.Dup, api.Add, api.Height, api.Swap, api.Sub)), nil, []int{5}},
	} {
		got, e := Run(c.l, c.stack, 9)
		if !slices.Equal(got, c.want) || e != api.OK {
			t.Errorf("%s: %v, %v, want %v", c.what, got, e, c.want)
		}
	}
}

// The last ones are those where what is left is not below 1000000.
func TestRunMixes(t *testing.T) {
	for _, c := range []struct{ n, want int }{
		{0, 763133}, {5, mixOf5}, {-5, 549389}, {3, 91377}, {1000000, 434886}, {-1000000, 91377},
		{-210139, 1000000}, {-65400, 0}, {934603, 0}, {-920664, 1}, {79339, 1},
	} {
		got, e := Run(orders(api.Mix), []int{7, c.n}, 0)
		if !slices.Equal(got, []int{7, c.want}) || e != api.OK {
			t.Errorf("mix of %d: %v, %v, want %d", c.n, got, e, c.want)
		}
	}
}

func TestRunFailsByItsOrders(t *testing.T) {
	for _, c := range []struct {
		what  string
		l     []api.Op
		stack []int
	}{
		{"dup of none", orders(api.Dup), nil},
		{"swap of none", orders(api.Swap), nil},
		{"swap of one", orders(api.Swap), []int{1}},
		{"drop of none", orders(api.Drop), nil},
		{"add of none", orders(api.Add), nil},
		{"add of one", orders(api.Add), []int{1}},
		{"sub of one", orders(api.Sub), []int{1}},
		{"same of one", orders(api.Same), []int{1}},
		{"less of one", orders(api.Less), []int{1}},
		{"and of one", orders(api.And), []int{1}},
		{"not of none", orders(api.Not), nil},
		{"verify of none", orders(api.Verify), nil},
		{"verify of 0", orders(api.Verify), []int{1, 0}},
		{"mix of none", orders(api.Mix), nil},
		{"add above", orders(api.Add), []int{1000000, 1}},
		{"add below", orders(api.Add), []int{-1000000, -1}},
		{"sub above", orders(api.Sub), []int{1000000, -1}},
		{"sub below", orders(api.Sub), []int{-1000000, 1}},
		{"push on a full one", push(1), ones(api.MaxStack)},
		{"height on a full one", orders(api.Height), ones(api.MaxStack)},
		{"dup of a full one", orders(api.Dup), ones(api.MaxStack)},
		{"what comes later mends nothing", then(orders(api.Drop), push(1)), nil},
		{"too much, though only for a while", orders(api.Add, api.Drop), []int{1000000, 1}},
		{"too many, though only for a while", then(push(1), orders(api.Drop)), ones(api.MaxStack)},
	} {
		got, e := Run(c.l, c.stack, 9)
		if got != nil || e != api.ErrKey {
			t.Errorf("%s: %v, %v", c.what, got, e)
		}
	}
}

func TestRunOnAFullStack(t *testing.T) {
	full := ones(api.MaxStack)
	for _, c := range []struct {
		what string
		l    []api.Op
		want int
	}{
		{"nothing", nil, api.MaxStack},
		{"add", orders(api.Add), api.MaxStack - 1},
		{"swap", orders(api.Swap), api.MaxStack},
		{"not", orders(api.Not), api.MaxStack},
		{"drop, push", then(orders(api.Drop), push(1)), api.MaxStack},
	} {
		got, e := Run(c.l, full, 9)
		if len(got) != c.want || e != api.OK {
			t.Errorf("%s: %v, %v", c.what, got, e)
		}
	}
	if got, e := Run(push(full...), nil, 9); !slices.Equal(got, full) || e != api.OK {
		t.Errorf("filled by pushes: %v, %v", got, e)
	}
}

func TestRunRefuses(t *testing.T) {
	for _, c := range []struct {
		what   string
		l      []api.Op
		stack  []int
		height int
		want   api.Errno
	}{
		{"too many orders", make([]api.Op, api.MaxOps+1), nil, 0, api.ErrMany},
		{"no kind", orders(0), nil, 0, api.ErrForm},
		{"no kind, no height", orders(0), []int{1000001}, -1, api.ErrForm},
		{"no kind behind what fails", orders(api.Drop, 0), nil, 0, api.ErrForm},
		{"a number beside an order", []api.Op{{Kind: api.Dup, N: 1}}, []int{1}, 0, api.ErrRange},
		{"height below", push(1), nil, -1, api.ErrRange},
		{"height above", push(1), nil, api.MaxHeight + 1, api.ErrRange},
		{"height far above", orders(api.Height), nil, math.MaxInt, api.ErrRange},
		{"no height, no order that asks for it", nil, nil, math.MinInt, api.ErrRange},
		{"stack too long", nil, ones(api.MaxStack + 1), 0, api.ErrRange},
		{"stack far too long", orders(api.Drop), ones(1000), 0, api.ErrRange},
		{"number above", nil, []int{1, 1000001}, 0, api.ErrRange},
		{"number below", nil, []int{-1000001, 1}, 0, api.ErrRange},
		{"numbers far away", orders(api.Drop), []int{math.MaxInt}, 0, api.ErrRange},
		{"numbers far away", orders(api.Drop), []int{math.MinInt}, 0, api.ErrRange},
		{"no stack, and a failing order", orders(api.Drop, api.Drop), []int{1000001}, 0, api.ErrRange},
	} {
		got, e := Run(c.l, c.stack, c.height)
		if got != nil || e != c.want {
			t.Errorf("%s: %v, %v, want %v", c.what, got, e, c.want)
		}
	}
}

func TestRunTakesTheEdges(t *testing.T) {
	for _, height := range []int{0, 1, api.MaxHeight} {
		got, e := Run(orders(api.Height), []int{1000000, -1000000}, height)
		if !slices.Equal(got, []int{1000000, -1000000, height}) || e != api.OK {
			t.Errorf("height %d: %v, %v", height, got, e)
		}
	}
}

func TestRunOnlyReads(t *testing.T) {
	room := []int{1, 2, 77, 78}
	ops := then(push(5), orders(api.Drop, api.Swap, api.Add), push(8, 9))
	before := slices.Clone(ops)
	got, e := Run(ops, room[:2], 0)
	if !slices.Equal(got, []int{3, 8, 9}) || e != api.OK {
		t.Fatal(got, e)
	}
	if !slices.Equal(room, []int{1, 2, 77, 78}) || !slices.Equal(ops, before) {
		t.Error("Run changed what it was given:", room, ops)
	}
}

func TestRunAnswersNewMemory(t *testing.T) {
	stack := []int{1, 2}
	got, _ := Run(nil, stack, 0)
	got[0] = 99
	if stack[0] != 1 {
		t.Error("Run answers the stack that it was given")
	}
	again, _ := Run(nil, stack, 0)
	if again[0] != 1 {
		t.Error("Run keeps what it answered")
	}
}

// P2.3

func TestOpens(t *testing.T) {
	seven := then(push(7), orders(api.Same))
	for _, c := range []struct {
		what      string
		lock, key []api.Op
		height    int
		want      bool
	}{
		{"the number", seven, push(7), 0, true},
		{"a sum", seven, then(push(3, 4), orders(api.Add)), 0, true},
		{"another number", seven, push(6), 0, false},
		{"one left below", seven, push(1, 7), 0, false},
		{"no key", seven, nil, 0, false},
		{"neither", nil, nil, 0, false},
		{"no lock, a key that leaves 1", nil, push(1), 0, true},
		{"no lock, a key that leaves -1", nil, push(-1), 0, true},
		{"no lock, a key that leaves 0", nil, push(0), 0, false},
		{"no lock, a key that leaves two", nil, push(1, 1), 0, false},
		{"a lock that needs no key", push(1), nil, 0, true},
		{"a lock that leaves 2", push(2), nil, 0, true},
		{"a lock that leaves none", orders(api.Drop), push(1), 0, false},
		{"the key fails", push(1), orders(api.Drop), 0, false},
		{"the lock fails", orders(api.Add), push(1), 0, false},
		{"the lock fails, though it would end well", then(push(0), orders(api.Verify), push(1)), nil, 0, false},
		{"the key is first", then(push(2), orders(api.Sub)), push(3), 0, true},
		{"the key is first, the other way round", then(push(2), orders(api.Less)), push(3), 0, false},
		{"the height, in the lock", then(orders(api.Height), push(5), orders(api.Same)), nil, 5, true},
		{"another height, in the lock", then(orders(api.Height), push(5), orders(api.Same)), nil, 6, false},
		{"the height, in the key", then(push(5), orders(api.Same)), orders(api.Height), 5, true},
		{"the height 0", orders(api.Height), nil, 0, false},
		{"the greatest height", orders(api.Height), nil, api.MaxHeight, true},
		{"a mixed number", then(orders(api.Mix), push(mixOf5), orders(api.Same)), push(5), 0, true},
		{"the lock puts more than there is room for", then(push(1), orders(api.Drop)), push(ones(api.MaxStack)...), 0, false},
	} {
		got, e := Opens(c.lock, c.key, c.height)
		if got != c.want || e != api.OK {
			t.Errorf("%s: %v, %v, want %v", c.what, got, e, c.want)
		}
	}
}

func TestOpensRefuses(t *testing.T) {
	many := make([]api.Op, api.MaxOps+1)
	for _, c := range []struct {
		what      string
		lock, key []api.Op
		height    int
		want      api.Errno
	}{
		{"lock of too many", many, push(1), 0, api.ErrMany},
		{"key of too many", push(1), many, 0, api.ErrMany},
		{"the lock's error is first", orders(0), many, 0, api.ErrForm},
		{"the lock's error is first", many, orders(0), 0, api.ErrMany},
		{"the lock's error is ahead of the height's", orders(0), nil, -1, api.ErrForm},
		{"the key's error is ahead of the height's", nil, orders(0), -1, api.ErrForm},
		{"a number that may not be, in the lock", push(1000001), nil, 0, api.ErrRange},
		{"a number that may not be, in the key", nil, push(-1000001), 0, api.ErrRange},
		{"height below", push(1), nil, -1, api.ErrRange},
		{"height above", push(1), nil, api.MaxHeight + 1, api.ErrRange},
		{"the lock is wrong, though the key fails", orders(0), orders(api.Drop), 0, api.ErrForm},
		{"the height is wrong, though the key fails", push(1), orders(api.Drop), -1, api.ErrRange},
	} {
		got, e := Opens(c.lock, c.key, c.height)
		if got || e != c.want {
			t.Errorf("%s: %v, %v, want %v", c.what, got, e, c.want)
		}
	}
}

// P2.4

func TestPrintAndParseWords(t *testing.T) {
	for _, c := range []struct {
		l []api.Op
		s string
	}{
		{nil, ""},
		{push(7), "7"},
		{push(0, -1, 1000000, -1000000), "0 -1 1000000 -1000000"},
		{then(push(7), orders(api.Same)), "7 same"},
		{orders(api.Dup, api.Swap, api.Drop, api.Add, api.Sub, api.Same), "dup swap drop add sub same"},
		{orders(api.Less, api.Not, api.And, api.Verify, api.Height, api.Mix), "less not and verify height mix"},
		{push(slices.Repeat([]int{-1000000}, api.MaxOps)...), "-1000000" + strings.Repeat(" -1000000", api.MaxOps-1)},
	} {
		if s, e := Print(c.l); s != c.s || e != api.OK {
			t.Errorf("Print(%v): %q, %v, want %q", c.l, s, e, c.s)
		}
		if l, e := Parse(c.s); !slices.Equal(l, c.l) || e != api.OK {
			t.Errorf("Parse(%q): %v, %v, want %v", c.s, l, e, c.l)
		}
	}
}

func TestPrintRefuses(t *testing.T) {
	for _, c := range []struct {
		l    []api.Op
		want api.Errno
	}{
		{make([]api.Op, api.MaxOps+1), api.ErrMany},
		{orders(api.Dup, 0), api.ErrForm},
		{orders(api.Mix + 1), api.ErrForm},
		{push(1, 1000001), api.ErrRange},
		{[]api.Op{{Kind: api.Drop, N: 3}}, api.ErrRange},
	} {
		if s, e := Print(c.l); s != "" || e != c.want {
			t.Errorf("Print(%v): %q, %v, want %v", c.l, s, e, c.want)
		}
	}
}

func TestParseRefuses(t *testing.T) {
	for _, c := range []struct {
		s    string
		want api.Errno
	}{
		{" ", api.ErrText}, {"dup ", api.ErrText}, {" dup", api.ErrText}, {"dup  add", api.ErrText},
		{"dup\tadd", api.ErrText}, {"dup\nadd", api.ErrText}, {"dup\n", api.ErrText}, {"dup,add", api.ErrText},
		{"push", api.ErrText}, {"push 1", api.ErrText}, {"Dup", api.ErrText}, {"DUP", api.ErrText}, {"du", api.ErrText}, {"dupe", api.ErrText},
		{"07", api.ErrText}, {"-0", api.ErrText}, {"+1", api.ErrText}, {"-", api.ErrText}, {"1.0", api.ErrText}, {"0x1", api.ErrText}, {"1_0", api.ErrText},
		{"99999999999999999999", api.ErrText}, {"\x00", api.ErrText}, {"\xff", api.ErrText}, {"é", api.ErrText},
		{"1000001", api.ErrRange}, {"-1000001", api.ErrRange}, {"1 dup 1000001", api.ErrRange},
		{"1000001 none", api.ErrText}, {strings.Repeat("1 ", api.MaxOps+1) + "none", api.ErrText},
		{strings.Repeat("1 ", api.MaxOps) + "1", api.ErrMany},
		{strings.Repeat("1 ", api.MaxOps) + "1000001", api.ErrMany},
		{strings.Repeat("x", api.MaxText), api.ErrText},
		{strings.Repeat("x", api.MaxText+1), api.ErrMany},
		{strings.Repeat(" ", api.MaxText+1), api.ErrMany},
		{strings.Repeat("1 ", api.MaxText/2-1) + "11", api.ErrMany},
	} {
		if l, e := Parse(c.s); l != nil || e != c.want {
			t.Errorf("Parse(%q): %v, %v, want %v", c.s, l, e, c.want)
		}
	}
}

// P2.5

func TestParseOfPrintIsTheOrders(t *testing.T) {
	seed := 1
	next := func(below int) int {
		seed = (seed*7919 + 104729) % 1000003
		return seed % below
	}
	for range 2000 {
		l := make([]api.Op, next(api.MaxOps+1))
		for i := range l {
			l[i].Kind = api.Push + next(api.Mix)
			if l[i].Kind == api.Push {
				l[i].N = next(2000001) - 1000000
			}
		}
		s, e := Print(l)
		if e != api.OK {
			t.Fatal(l, e)
		}
		if back, e := Parse(s); !slices.Equal(back, l) || e != api.OK {
			t.Fatalf("%q: %v, %v, want %v", s, back, e, l)
		}
	}
}
