package output

import (
	"math"
	"testing"

	"cairn/api"
)

func push(n int) []api.Op { return []api.Op{{Kind: api.Push, N: n}} }

func TestIsPoint(t *testing.T) {
	for _, c := range []struct {
		p    api.Point
		want bool
	}{
		{api.Point{Tx: 1}, true},
		{api.Point{Tx: api.MaxBook, At: api.MaxOuts - 1}, true},
		{api.Point{}, false},
		{api.Point{Tx: -1}, false},
		{api.Point{Tx: api.MaxBook + 1}, false},
		{api.Point{Tx: 1, At: -1}, false},
		{api.Point{Tx: 1, At: api.MaxOuts}, false},
		{api.Point{Tx: math.MaxInt, At: math.MinInt}, false},
	} {
		if got := IsPoint(c.p); got != c.want {
			t.Errorf("%v: %v, want %v", c.p, got, c.want)
		}
	}
}

func TestCompare(t *testing.T) {
	ordered := []api.Point{{Tx: math.MinInt, At: 9}, {Tx: -1}, {}, {Tx: 1, At: -1}, {Tx: 1}, {Tx: 1, At: 5}, {Tx: 2}, {Tx: 2, At: 1}, {Tx: 10}, {Tx: math.MaxInt, At: math.MinInt}}
	for i, a := range ordered {
		for j, b := range ordered {
			got := Compare(a, b)
			if got < 0 != (i < j) || got > 0 != (i > j) {
				t.Errorf("%v, %v: %v", a, b, got)
			}
		}
	}
}

func TestSame(t *testing.T) {
	unlike := []api.Out{{}, {Coin: 1}, {Coin: -1}, {Coin: 1, Lock: push(1)}, {Coin: 2, Lock: push(1)}, {Coin: 1, Lock: push(2)}, {Coin: 1, Lock: append(push(1), push(1)...)}, {Coin: 1, Lock: []api.Op{{Kind: 99, N: 1}}}}
	for i, a := range unlike {
		for j, b := range unlike {
			if got := Same(a, Copy(b)); got != (i == j) {
				t.Errorf("%v, %v: %v", a, b, got)
			}
		}
	}
	if !Same(api.Out{Coin: 1}, api.Out{Coin: 1, Lock: []api.Op{}}) {
		t.Error("no lock and an empty one are alike")
	}
}

func TestCopySharesNothing(t *testing.T) {
	lock := append(push(1), push(2)...)
	o := api.Out{Coin: 3, Lock: lock[:1]}
	c := Copy(o)
	c.Lock[0].N = 99
	_ = append(c.Lock, push(99)...)
	if lock[0].N != 1 || lock[1].N != 2 {
		t.Errorf("the copy shares memory: %v", lock)
	}
}
