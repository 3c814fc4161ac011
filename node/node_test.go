package node

import (
	"math"
	"reflect"
	"slices"
	"strconv"
	"testing"

	"cairn/api"
	"cairn/block"
	"cairn/book"
	"cairn/chain"
	"cairn/clone"
	"cairn/tx"
	"cairn/unspent"
)

func push(l ...int) []api.Op {
	var ops []api.Op
	for _, n := range l {
		ops = append(ops, api.Op{Kind: api.Push, N: n})
	}
	return ops
}

// asks is a lock that a key of this number opens.
func asks(n int) []api.Op { return append(push(n), api.Op{Kind: api.Same}) }

// asksHeight is a lock that the height opens as a key.
func asksHeight() []api.Op { return []api.Op{{Kind: api.Height}, {Kind: api.Same}} }

// out is one that anyone may spend.
func out(n int) api.Out { return api.Out{Coin: n, Lock: push(1)} }

func outs(l ...int) []api.Out {
	var all []api.Out
	for _, n := range l {
		all = append(all, out(n))
	}
	return all
}

func paid(height, n int) api.Tx { return api.Tx{Height: height, Outs: outs(n)} }

// spend is a transaction that spends the output of another one, without a key.
func spend(name, at int, l ...int) api.Tx {
	return api.Tx{Ins: []api.In{{P: api.Point{Tx: name, At: at}}}, Outs: outs(l...)}
}

// by is the transaction, with a key for what it spends.
func by(x api.Tx, key ...int) api.Tx {
	x.Ins[0].Key = push(key...)
	return x
}

// to is the transaction, with a lock of what it gives.
func to(x api.Tx, lock []api.Op) api.Tx {
	x.Outs[0].Lock = lock
	return x
}

func txs(l ...api.Tx) []api.Tx { return l }

// on is a block on another one, with a reward of so much, and others behind it.
func on(parent, height, n int, others ...api.Tx) api.Block {
	return api.Block{Parent: parent, Height: height, Work: 1, Txs: append(txs(paid(height, n)), others...)}
}

// hard is the block, of so much work.
func hard(b api.Block, work int) api.Block {
	b.Work = work
	return b
}

func kept(name, at, n, height int) api.Coin {
	return api.Coin{P: api.Point{Tx: name, At: at}, O: out(n), Height: height}
}

func made(name, n, height int) api.Coin {
	c := kept(name, 0, n, height)
	c.Reward = true
	return c
}

func texts(l ...string) api.Book { return api.Book{Texts: l} }

func numbered(count int) api.Book {
	var k api.Book
	for i := range count {
		k.Texts = append(k.Texts, "text "+strconv.Itoa(i))
	}
	return k
}

func sameTxs(a, b []api.Tx) bool { return slices.EqualFunc(a, b, tx.Same) }

func sameBook(a, b api.Book) bool { return slices.Equal(a.Texts, b.Texts) }

// with is the book behind which the texts of some transactions stand, of those that have one.
func with(k api.Book, l ...api.Tx) api.Book {
	for _, x := range l {
		if s, e := tx.Print(x); e == api.OK {
			k, _, _ = book.Name(k, s)
		}
	}
	return k
}

// without is the book, in which another text has taken the place of this name.
func without(k api.Book, name int) api.Book {
	k.Texts = slices.Clone(k.Texts)
	k.Texts[name-1] = "another one"
	return k
}

// site is a node and its book.
type site struct {
	k api.Book
	n api.Node
}

func (s *site) take(t *testing.T, b api.Block) int {
	t.Helper()
	k, n, name, e := Take(s.k, s.n, b)
	if e != api.OK {
		t.Fatal(b, e)
	}
	s.k, s.n = k, n
	return name
}

func (s *site) offer(t *testing.T, l ...api.Tx) *site {
	t.Helper()
	for _, x := range l {
		k, n, e := Offer(s.k, s.n, x)
		if e != api.OK {
			t.Fatal(x, e)
		}
		s.k, s.n = k, n
	}
	return s
}

// put lays a block into the tree without asking, by the name that its text has, or by this one if it can't have any.
func (s *site) put(b api.Block, name int) int {
	if k, named, _, e := block.Names(s.k, b); e == api.OK {
		s.k, name = k, named
	}
	s.n.T.Names = append(slices.Clone(s.n.T.Names), name)
	s.n.T.Blocks = append(slices.Clone(s.n.T.Blocks), b)
	return name
}

// wait lays transactions into what waits without asking; the book has their names.
func (s *site) wait(l ...api.Tx) *site {
	s.k = with(s.k, l...)
	s.n.Pool = append(slices.Clone(s.n.Pool), l...)
	return s
}

// The names of some. On a stand b and f, on b stands c, on c stands d, on f stands h:
//
//	a - b - c - d
//	  - f - h
//	g
const (
	a = 2
	b = 4
	c = 7
	d = 10
	f = 12
	h = 14
	g = 16
	// free is the first name that isn't in the book.
	free = 17
)

// some has d for its best; c and h both have one transaction that spends the coin of a. Nothing waits.
func some(t *testing.T) *site {
	t.Helper()
	s := &site{}
	got := []int{
		s.take(t, on(0, 1, 64)),
		s.take(t, on(a, 2, 10)),
		s.take(t, on(b, 3, 70, spend(1, 0, 58))),
		s.take(t, on(c, 4, 64, spend(6, 0, 50, 8))),
		s.take(t, on(a, 2, 20)),
		s.take(t, on(f, 3, 64, spend(1, 0, 58))),
		s.take(t, on(0, 1, 30)),
	}
	if !slices.Equal(got, []int{a, b, c, d, f, h, g}) || s.n.Tip != d || len(s.k.Texts) != free-1 {
		t.Fatal("other names:", got, s.n.Tip)
	}
	return s
}

// someCoins are those of d.
func someCoins() []api.Coin {
	return []api.Coin{made(3, 10, 2), made(5, 70, 3), made(8, 64, 4), kept(9, 0, 50, 4), kept(9, 1, 8, 4)}
}

// waits are what can wait in some: by the names 17 to 20, the second spends what the first gives.
func waits() []api.Tx {
	return txs(spend(9, 0, 45), spend(free, 0, 40), spend(3, 0, 10), spend(9, 1, 7))
}

// busy is some, where these wait.
func busy(t *testing.T) *site {
	t.Helper()
	return some(t).offer(t, waits()...)
}

// tall has as many blocks as may be, one on the other.
func tall(t *testing.T) *site {
	t.Helper()
	s, last := &site{}, 0
	for i := range api.MaxBlocks {
		last = s.take(t, on(last, i+1, 64>>(i/api.Halving)))
	}
	return s
}

// crowd has a coin for each that may wait, and one more, and as many wait as may.
func crowd(t *testing.T) (*site, []api.Tx) {
	t.Helper()
	s := &site{}
	s.take(t, on(0, 1, 64))
	s.take(t, on(2, 2, 64))
	s.take(t, on(4, 3, 1, spend(1, 0, 9, 9, 9, 9, 9, 9)))
	s.take(t, on(7, 4, 1, spend(3, 0, 9, 9, 9)))
	var l []api.Tx
	for i := range api.MaxPool {
		l = append(l, spend([]int{6, 9}[i/api.MaxOuts], i%api.MaxOuts, 9-i))
	}
	return s.offer(t, l...), l
}

// good tells that a node is one, with this tip, by what the chapter promises of it.
func (s *site) good(t *testing.T, what string, tip int) {
	t.Helper()
	want, e := chain.Coins(s.k, s.n.T, tip)
	if e != api.OK || s.n.Tip != tip {
		t.Errorf("%s: the tip is %v, of %v, want %v", what, s.n.Tip, e, tip)
	}
	if e := Check(s.k, s.n); e != api.OK {
		t.Errorf("%s: Check says %v", what, e)
	}
	if got, e := Coins(s.k, s.n); !unspent.Same(got, want) || e != api.OK {
		t.Errorf("%s: the coins are %v, %v, want %v", what, got, e, want)
	}
}

// refused holds a want against what all calls say of a book and a node: Check's error is theirs, whatever else is wrong.
func refused(t *testing.T, what string, k api.Book, n api.Node, want api.Errno) {
	t.Helper()
	if e := Check(k, n); e != want {
		t.Errorf("Check, %s: %v, want %v", what, e, want)
	}
	for _, x := range []api.Block{on(0, 1, 33), on(99, 1, 65), {}} {
		untaken(t, what, k, n, x, want)
	}
	for _, x := range txs(spend(9, 0, 44), paid(5, 1), api.Tx{}) {
		unoffered(t, what, k, n, x, want)
	}
	for _, work := range []int{1, 0} {
		unmade(t, what, k, n, work, work-1, push(1), want)
		unmade(t, what, k, n, work, work-1, make([]api.Op, 1), want)
	}
	if got, e := Coins(k, n); got != nil || e != want {
		t.Errorf("Coins, %s: %v, %v, want %v", what, got, e, want)
	}
	if got, e := Balance(k, n, push(1)); got != 0 || e != want {
		t.Errorf("Balance, %s: %v, %v, want %v", what, got, e, want)
	}
}

func untaken(t *testing.T, what string, k api.Book, n api.Node, x api.Block, want api.Errno) {
	t.Helper()
	if out, then, name, e := Take(k, n, x); !isNothing(out, then) || name != 0 || e != want {
		t.Errorf("Take, %s: %v, %v, %v, %v, want %v", what, out, then, name, e, want)
	}
}

func unoffered(t *testing.T, what string, k api.Book, n api.Node, x api.Tx, want api.Errno) {
	t.Helper()
	if out, then, e := Offer(k, n, x); !isNothing(out, then) || e != want {
		t.Errorf("Offer, %s: %v, %v, %v, want %v", what, out, then, e, want)
	}
}

func unmade(t *testing.T, what string, k api.Book, n api.Node, work, nonce int, to []api.Op, want api.Errno) {
	t.Helper()
	out, then, x, e := Make(k, n, work, nonce, to)
	if !isNothing(out, then) || !reflect.DeepEqual(x, api.Block{}) || e != want {
		t.Errorf("Make, %s: %v, %v, %v, %v, want %v", what, out, then, x, e, want)
	}
}

func isNothing(k api.Book, n api.Node) bool {
	return reflect.DeepEqual(k, api.Book{}) && reflect.DeepEqual(n, api.Node{})
}

// P10.4

func TestCoins(t *testing.T) {
	s := some(t)
	if got, e := Coins(s.k, s.n); !unspent.Same(got, someCoins()) || e != api.OK {
		t.Errorf("%v, %v, want %v", got, e, someCoins())
	}
	s = busy(t)
	if got, e := Coins(s.k, s.n); !unspent.Same(got, someCoins()) || e != api.OK {
		t.Errorf("what waits isn't done yet: %v, %v, want %v", got, e, someCoins())
	}
	for _, k := range []api.Book{{}, numbered(api.MaxBook)} {
		if got, e := Coins(k, api.Node{}); len(got) != 0 || e != api.OK {
			t.Errorf("of nothing: %v, %v", got, e)
		}
	}
	s = tall(t)
	got, e := Coins(s.k, s.n)
	if sum, _ := unspent.Total(got); len(got) != api.MaxBlocks || sum != 8*(64+32+16) || e != api.OK {
		t.Errorf("of as many as may be: %v, %v", got, e)
	}
}

func TestBalance(t *testing.T) {
	s := some(t)
	s.take(t, api.Block{Parent: d, Height: 5, Work: 1, Txs: txs(
		to(paid(5, 64), asks(7)),
		to(spend(9, 0, 20, 30), asks(7)),
		to(spend(9, 1, 8), nil),
	)})
	for _, w := range []struct {
		lock []api.Op
		want int
	}{
		{push(1), 10 + 70 + 64 + 30},
		{asks(7), 64 + 20},
		{nil, 8},
		{[]api.Op{}, 8},
		{push(7), 0},
		{asks(8), 0},
		{push(1, 1), 0},
		{make([]api.Op, 1), 0},
		{make([]api.Op, api.MaxOps+1), 0},
	} {
		if got, e := Balance(s.k, s.n, w.lock); got != w.want || e != api.OK {
			t.Errorf("of %v: %v, %v, want %v", w.lock, got, e, w.want)
		}
		if got, e := Balance(s.k, api.Node{}, w.lock); got != 0 || e != api.OK {
			t.Errorf("of %v at one that has nothing: %v, %v", w.lock, got, e)
		}
	}
	s = busy(t)
	if got, e := Balance(s.k, s.n, push(1)); got != 202 || e != api.OK {
		t.Errorf("what waits isn't done yet: %v, %v", got, e)
	}
}

func TestSame(t *testing.T) {
	for _, n := range []api.Node{{}, busy(t).n, {Tip: -1, T: api.Tree{Names: []int{math.MinInt}}, Pool: make([]api.Tx, 99)}} {
		if !Same(n, n) || !Same(n, clone.Node(n)) {
			t.Errorf("not the same: %v", n)
		}
	}
	empty := api.Node{T: api.Tree{Names: []int{}, Blocks: []api.Block{}}, Pool: []api.Tx{}}
	if !Same(empty, api.Node{}) || !Same(api.Node{}, empty) {
		t.Error("empty lists aren't the same as none")
	}
}

func TestSameKnowsAllFields(t *testing.T) {
	for what, change := range map[string]func(n *api.Node){
		"the tip":           func(n *api.Node) { n.Tip++ },
		"a name":            func(n *api.Node) { n.T.Names[6]++ },
		"a name less":       func(n *api.Node) { n.T.Names = n.T.Names[:6] },
		"a block less":      func(n *api.Node) { n.T.Blocks = n.T.Blocks[:6] },
		"a block":           func(n *api.Node) { n.T.Blocks[6].Nonce++ },
		"what is in one":    func(n *api.Node) { n.T.Blocks[2].Txs[1].Outs[0].Lock[0].N++ },
		"the order":         func(n *api.Node) { n.T.Blocks[1], n.T.Blocks[4] = n.T.Blocks[4], n.T.Blocks[1] },
		"one that waits":    func(n *api.Node) { n.Pool[3].Outs[0].Coin++ },
		"one less waits":    func(n *api.Node) { n.Pool = n.Pool[:3] },
		"one more waits":    func(n *api.Node) { n.Pool = append(n.Pool, api.Tx{}) },
		"the order of both": func(n *api.Node) { n.Pool[0], n.Pool[3] = n.Pool[3], n.Pool[0] },
		"nothing waits":     func(n *api.Node) { n.Pool = nil },
		"no tree":           func(n *api.Node) { n.T = api.Tree{} },
	} {
		was, n := busy(t).n, busy(t).n
		change(&n)
		if Same(was, n) || Same(n, was) {
			t.Errorf("the same, whatever becomes of %s", what)
		}
	}
}
