package unspent

import (
	"math"
	"reflect"
	"slices"
	"testing"

	"cairn/api"
	"cairn/clone"
)

func push(l ...int) []api.Op {
	var ops []api.Op
	for _, n := range l {
		ops = append(ops, api.Op{Kind: api.Push, N: n})
	}
	return ops
}

// asks is a lock that the key of this number opens.
func asks(n int) []api.Op { return append(push(n), api.Op{Kind: api.Same}) }

// wrong orders: too many, one of no kind, one of a number that may not be.
func tooMany() []api.Op { return make([]api.Op, api.MaxOps+1) }
func noKind() []api.Op  { return []api.Op{{Kind: 0}} }
func noRange() []api.Op { return push(1000001) }

func at(tx, at int) api.Point { return api.Point{Tx: tx, At: at} }

// coin stands at a point, of so much, with a lock, of the height 1.
func coin(tx, place, n int, lock ...api.Op) api.Coin {
	return api.Coin{P: at(tx, place), O: api.Out{Coin: n, Lock: lock}, Height: 1}
}

// made is a coin that was a reward of this height.
func made(tx, n, height int, lock ...api.Op) api.Coin {
	c := coin(tx, 0, n, lock...)
	c.Height, c.Reward = height, true
	return c
}

// of is a coin like c of another height.
func of(c api.Coin, height int) api.Coin {
	c.Height = height
	return c
}

// every is a coin of 1 at each point.
func every() []api.Coin {
	var l []api.Coin
	for tx := range api.MaxBook {
		for place := range api.MaxOuts {
			l = append(l, coin(tx+1, place, 1))
		}
	}
	return l
}

type wrongList struct {
	what string
	l    []api.Coin
	want api.Errno
}

// wrong are lists that are no coins, and what is wrong with each.
func wrong() []wrongList {
	good := coin(1, 0, 1)
	return []wrongList{
		{"too many", append(every(), coin(api.MaxBook, api.MaxOuts, 1)), api.ErrMany},
		{"far too many, of nothing", make([]api.Coin, 5000), api.ErrMany},
		{"nothing", []api.Coin{{}}, api.ErrRange},
		{"no transaction", []api.Coin{coin(0, 0, 1)}, api.ErrRange},
		{"transaction below", []api.Coin{coin(-1, 0, 1)}, api.ErrRange},
		{"transaction above", []api.Coin{good, coin(api.MaxBook+1, 0, 1)}, api.ErrRange},
		{"place below", []api.Coin{coin(1, -1, 1)}, api.ErrRange},
		{"place above", []api.Coin{good, coin(1, api.MaxOuts, 1)}, api.ErrRange},
		{"of 0", []api.Coin{coin(1, 0, 0)}, api.ErrRange},
		{"of less", []api.Coin{coin(1, 0, -1)}, api.ErrRange},
		{"of far less", []api.Coin{coin(1, 0, math.MinInt)}, api.ErrRange},
		{"of more than there is", []api.Coin{coin(1, 0, api.MaxCoin+1)}, api.ErrRange},
		{"of far more than there is", []api.Coin{good, coin(2, 0, math.MaxInt)}, api.ErrRange},
		{"no height", []api.Coin{of(good, 0)}, api.ErrRange},
		{"height below", []api.Coin{of(good, -1)}, api.ErrRange},
		{"height above", []api.Coin{of(good, api.MaxHeight+1)}, api.ErrRange},
		{"lock of too many", []api.Coin{coin(1, 0, 1, tooMany()...)}, api.ErrMany},
		{"lock of no kind", []api.Coin{coin(1, 0, 1, noKind()...)}, api.ErrForm},
		{"lock out of range", []api.Coin{coin(1, 0, 1, noRange()...)}, api.ErrRange},
		{"a point twice", []api.Coin{coin(3, 2, 1), coin(3, 2, 5)}, api.ErrTwice},
		{"transactions in no order", []api.Coin{coin(3, 0, 1), coin(2, 0, 1)}, api.ErrTwice},
		{"places in no order", []api.Coin{coin(3, 2, 1), coin(3, 1, 1)}, api.ErrTwice},
		{"the transaction is ahead of the place", []api.Coin{coin(3, 0, 1), coin(2, 5, 1)}, api.ErrTwice},
		{"the last in no order", []api.Coin{coin(1, 0, 1), coin(2, 0, 1), coin(4, 0, 1), coin(3, 0, 1)}, api.ErrTwice},
		{"a point twice, not side by side", []api.Coin{coin(1, 0, 1), coin(2, 0, 1), coin(1, 0, 1)}, api.ErrTwice},
		{"too much together", []api.Coin{coin(1, 0, api.MaxCoin), coin(2, 0, 1)}, api.ErrFull},
		{"too much together, of three", []api.Coin{coin(1, 0, 1), coin(2, 0, api.MaxCoin-1), coin(2, 1, 1)}, api.ErrFull},
		{"far too much together", []api.Coin{coin(1, 0, api.MaxCoin), coin(1, 1, api.MaxCoin), coin(1, 2, api.MaxCoin)}, api.ErrFull},
		{"range is ahead of lock", []api.Coin{coin(1, 0, 0, noKind()...)}, api.ErrRange},
		{"height is ahead of lock", []api.Coin{of(coin(1, 0, 1, noKind()...), 0)}, api.ErrRange},
		{"lock is ahead of twice", []api.Coin{good, coin(1, 0, 1, noKind()...)}, api.ErrForm},
		{"range is ahead of twice", []api.Coin{good, coin(1, 0, 0)}, api.ErrRange},
		{"twice is ahead of too much", []api.Coin{coin(1, 0, api.MaxCoin), coin(1, 0, 1)}, api.ErrTwice},
		{"lock is ahead of too much", []api.Coin{coin(1, 0, api.MaxCoin), coin(2, 0, 1, noKind()...)}, api.ErrForm},
		{"the first coin's error: lock", []api.Coin{coin(1, 0, 1, noKind()...), coin(0, 0, 0)}, api.ErrForm},
		{"the first coin's error: twice", []api.Coin{good, good, coin(0, 0, 0)}, api.ErrTwice},
		{"the first coin's error: too much", []api.Coin{coin(1, 0, api.MaxCoin), coin(2, 0, 1), coin(2, 0, 0)}, api.ErrFull},
	}
}

// P5.1

func TestCheckTakesCoins(t *testing.T) {
	for _, c := range []struct {
		what string
		l    []api.Coin
	}{
		{"no list", nil},
		{"an empty list", []api.Coin{}},
		{"the least", []api.Coin{coin(1, 0, 1)}},
		{"the greatest", []api.Coin{of(coin(api.MaxBook, api.MaxOuts-1, api.MaxCoin, push(make([]int, api.MaxOps)...)...), api.MaxHeight)}},
		{"a reward", []api.Coin{made(4, 64, 3, asks(7)...)}},
		{"some, in order", []api.Coin{coin(1, 5, 1), coin(2, 0, 1), coin(2, 1, 1), coin(2, 5, 1), coin(10, 0, 1)}},
		{"heights in any order", []api.Coin{of(coin(1, 0, 1), 9), of(coin(2, 0, 1), 3)}},
		{"all that there is", []api.Coin{coin(1, 0, 1), coin(2, 0, api.MaxCoin-3), coin(2, 1, 2)}},
		{"at every point", every()},
	} {
		if e := Check(c.l); e != api.OK {
			t.Errorf("%s: %v", c.what, e)
		}
	}
}

func TestCheckRefuses(t *testing.T) {
	for _, c := range wrong() {
		if e := Check(c.l); e != c.want {
			t.Errorf("%s: %v, want %v", c.what, e, c.want)
		}
	}
}

func TestTheOthersTellCheckFirst(t *testing.T) {
	for _, c := range wrong() {
		for _, p := range []api.Point{{}, at(1, 0), at(200, 200)} {
			if got, e := Find(c.l, p); !reflect.DeepEqual(got, api.Coin{}) || e != c.want {
				t.Errorf("Find, %s: %v, %v, want %v", c.what, got, e, c.want)
			}
		}
		if n, e := Total(c.l); n != 0 || e != c.want {
			t.Errorf("Total, %s: %v, %v, want %v", c.what, n, e, c.want)
		}
		if n, e := Of(c.l, tooMany()); n != 0 || e != c.want {
			t.Errorf("Of, %s: %v, %v, want %v", c.what, n, e, c.want)
		}
		for _, x := range []api.Tx{{}, reward(1, out(1)), spend(ins(at(1, 0)), out(1)), {Ins: make([]api.In, api.MaxIns+1)}} {
			for _, name := range []int{0, 7} {
				if l, u, e := Apply(c.l, x, name, name); l != nil || u.Spent != nil || e != c.want {
					t.Errorf("Apply, %s: %v, %v, %v, want %v", c.what, l, u, e, c.want)
				}
				if l, e := Revert(c.l, x, name, api.Undo{}); l != nil || e != c.want {
					t.Errorf("Revert, %s: %v, %v, want %v", c.what, l, e, c.want)
				}
			}
		}
	}
}

func TestFind(t *testing.T) {
	some := []api.Coin{coin(2, 1, 5, push(1)...), made(3, 7, 9, asks(4)...), coin(10, 0, 6), coin(10, 5, 8)}
	for _, want := range some {
		if c, e := Find(some, want.P); !reflect.DeepEqual(c, want) || e != api.OK {
			t.Errorf("%v: %v, %v, want %v", want.P, c, e, want)
		}
	}
	for _, p := range []api.Point{{}, at(1, 0), at(2, 0), at(2, 2), at(3, 1), at(10, 1), at(11, 0), at(-1, -1), at(1, 2), at(math.MaxInt, math.MinInt), at(api.MaxBook+1, 0)} {
		if c, e := Find(some, p); !reflect.DeepEqual(c, api.Coin{}) || e != api.ErrSpent {
			t.Errorf("%v: %v, %v", p, c, e)
		}
		if _, e := Find(nil, p); e != api.ErrSpent {
			t.Errorf("%v of none: %v", p, e)
		}
	}
	for _, want := range every() {
		if c, e := Find(every(), want.P); c.P != want.P || e != api.OK {
			t.Errorf("%v: %v, %v", want.P, c, e)
		}
	}
}

func TestTotalAndOf(t *testing.T) {
	some := []api.Coin{coin(1, 0, 5, push(1)...), coin(1, 1, 70), made(2, 600, 3, push(1)...), coin(3, 0, 8000, asks(1)...), coin(4, 0, 90000, push(1, 1)...)}
	for _, c := range []struct {
		what  string
		l     []api.Coin
		total int
		k     []api.Op
		of    int
	}{
		{"none", nil, 0, nil, 0},
		{"an empty list", []api.Coin{}, 0, push(1), 0},
		{"of a lock that two have", some, 98675, push(1), 605},
		{"of no lock", some, 98675, nil, 70},
		{"of an empty lock", some, 98675, []api.Op{}, 70},
		{"of a longer lock", some, 98675, asks(1), 8000},
		{"of an order twice", some, 98675, push(1, 1), 90000},
		{"of a lock that none has", some, 98675, push(2), 0},
		{"of another order", some, 98675, []api.Op{{Kind: api.Dup, N: 1}}, 0},
		{"of what is no lock", some, 98675, noKind(), 0},
		{"of too many orders", some, 98675, tooMany(), 0},
		{"all that there is", []api.Coin{coin(1, 0, api.MaxCoin-1), coin(1, 1, 1)}, api.MaxCoin, nil, api.MaxCoin},
		{"at every point", every(), api.MaxBook * api.MaxOuts, nil, api.MaxBook * api.MaxOuts},
	} {
		if n, e := Total(c.l); n != c.total || e != api.OK {
			t.Errorf("Total, %s: %v, %v, want %v", c.what, n, e, c.total)
		}
		if n, e := Of(c.l, c.k); n != c.of || e != api.OK {
			t.Errorf("Of, %s: %v, %v, want %v", c.what, n, e, c.of)
		}
	}
}

func TestSame(t *testing.T) {
	// Some of these are no coins, or in no order.
	unlike := func() [][]api.Coin {
		l := [][]api.Coin{nil, {{}}, {coin(1, 0, 1), coin(2, 0, 1)}, {coin(2, 0, 1), coin(1, 0, 1)}, {coin(1, 0, 1), coin(1, 0, 1)}, every()}
		return append(l, []api.Coin{coin(1, 0, 1)}, []api.Coin{coin(2, 0, 1)}, []api.Coin{coin(1, 1, 1)}, []api.Coin{coin(1, 0, 2)}, []api.Coin{coin(1, 0, -2)},
			[]api.Coin{of(coin(1, 0, 1), 2)}, []api.Coin{made(1, 1, 1)}, []api.Coin{coin(1, 0, 1, push(1)...)}, []api.Coin{coin(1, 0, 1, push(2)...)}, []api.Coin{coin(1, 0, 1, noKind()...)}, []api.Coin{coin(1, 0, 1, push(1, 1)...)})
	}
	for i, a := range unlike() {
		for j, b := range unlike() {
			if got := Same(a, b); got != (i == j) {
				t.Errorf("%v, %v: %v", a, b, got)
			}
		}
	}
	empty := coin(1, 0, 1)
	empty.O.Lock = []api.Op{}
	if !Same(nil, []api.Coin{}) || !Same([]api.Coin{coin(1, 0, 1)}, []api.Coin{empty}) {
		t.Error("no list and an empty one are alike")
	}
}

// P2 of the whole document, where lists are handed in and out.

// roomy is a list with spare room behind it and behind each of its locks, in which markers stand.
func roomy() []api.Coin {
	l := []api.Coin{coin(1, 0, 9, push(1, 77)...), coin(2, 0, 5, push(1, 77)...), coin(77, 0, 77), coin(77, 1, 77), coin(77, 2, 77)}
	l[0].O.Lock, l[1].O.Lock = l[0].O.Lock[:1], l[1].O.Lock[:1]
	return l[:2]
}

func roomyTx() api.Tx {
	outs := []api.Out{out(3, push(2, 77)...), out(4, push(2, 77)...), out(77)}
	outs[0].Lock, outs[1].Lock = outs[0].Lock[:1], outs[1].Lock[:1]
	key := push(5, 77)
	return api.Tx{Ins: []api.In{{P: at(2, 0)}, {P: at(1, 0), Key: key[:0]}, {P: at(77, 0)}}[:2], Outs: outs[:2]}
}

// whole is all of a list's memory, its spare room and that of its locks too.
func whole(l []api.Coin) []api.Coin {
	l = slices.Clone(l[:cap(l)])
	for i, c := range l {
		l[i].O.Lock = c.O.Lock[:cap(c.O.Lock)]
	}
	return l
}

// wholeTx is all of a transaction's memory.
func wholeTx(x api.Tx) api.Tx {
	x.Ins, x.Outs = slices.Clone(x.Ins[:cap(x.Ins)]), slices.Clone(x.Outs[:cap(x.Outs)])
	for i, in := range x.Ins {
		x.Ins[i].Key = in.Key[:cap(in.Key)]
	}
	for i, o := range x.Outs {
		x.Outs[i].Lock = o.Lock[:cap(o.Lock)]
	}
	return x
}

func TestCallsOnlyRead(t *testing.T) {
	l, x, k := roomy(), roomyTx(), push(1, 77)
	Check(l)
	Find(l, at(1, 0))
	Total(l)
	Of(l, k[:1])
	Same(l, l)
	m, u, e := Apply(l, x, 1, 3)
	Apply(l, reward(3, x.Outs...), 7, 3)
	Apply(l, spend(x.Ins, out(1), out(1), out(99)), 7, 3)
	// What is reverted has spare room, too.
	after, undo := append(clone.Coins(m), coin(77, 0, 77))[:len(m)], append(clone.Coins(u.Spent), coin(77, 0, 77))[:2]
	_, back := Revert(after, x, 1, api.Undo{Spent: undo})
	Revert(after, x, 1, api.Undo{Spent: []api.Coin{undo[0], undo[0]}})
	if e != api.OK || back != api.OK {
		t.Fatal(e, back)
	}
	if !Same(whole(l), whole(roomy())) || !reflect.DeepEqual(wholeTx(x), wholeTx(roomyTx())) || !slices.Equal(k, push(1, 77)) {
		t.Errorf("what was handed in is changed: %v, %v, %v", whole(l), wholeTx(x), k)
	}
	if !Same(after[:len(m)+1], append(m, coin(77, 0, 77))) || !Same(undo[:3], append(u.Spent, coin(77, 0, 77))) {
		t.Errorf("what was handed to Revert is changed: %v, %v", after[:len(m)+1], undo[:3])
	}
}

// spoil changes all memory that a list has.
func spoil(l []api.Coin) {
	for _, c := range whole(l) {
		for i := range c.O.Lock {
			c.O.Lock[i].N = 99
		}
	}
	l = l[:cap(l)]
	for i := range l {
		l[i] = api.Coin{Height: 99}
	}
}

func TestCallsAnswerNewMemory(t *testing.T) {
	l, x := roomy(), roomyTx()
	c, _ := Find(l, at(1, 0))
	spoil([]api.Coin{c})
	m, u, _ := Apply(l, x, 7, 3)
	spent := clone.Coins(u.Spent)
	spoil(m)
	if !Same(u.Spent, spent) {
		t.Errorf("the lists of an answer share memory: %v", u.Spent)
	}
	spoil(u.Spent)
	again, u, _ := Apply(l, x, 7, 3)
	undo := api.Undo{Spent: clone.Coins(u.Spent)}
	after := clone.Coins(again)
	back, _ := Revert(again, x, 7, u)
	spoil(back)
	kept, _, _ := Apply(l, reward(3, x.Outs...), 7, 3)
	spoil(kept)
	if !Same(whole(l), whole(roomy())) || !reflect.DeepEqual(wholeTx(x), wholeTx(roomyTx())) {
		t.Errorf("an answer shares memory with what was handed in: %v, %v", whole(l), wholeTx(x))
	}
	if !Same(again, after) || !Same(u.Spent, undo.Spent) {
		t.Errorf("what Revert answered shares memory: %v, %v", again, u.Spent)
	}
}
