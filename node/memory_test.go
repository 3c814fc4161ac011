package node

import (
	"reflect"
	"slices"
	"testing"

	"cairn/api"
	"cairn/clone"
	"cairn/tx"
	"cairn/unspent"
)

// P2 of the whole document, where lists are handed in and out.

// handed is what all calls are handed, with spare room behind each list, in which a marker stands.
type handed struct {
	k  api.Book
	n  api.Node
	b  api.Block
	t  api.Tx
	to []api.Op
}

// room is a list with one more behind it.
func room[T any](l []T, spare T) []T { return append(slices.Clip(l), spare)[:len(l)] }

func roomyOps(l []api.Op) []api.Op { return room(l, api.Op{Kind: 77}) }

func roomyTx(x api.Tx) api.Tx {
	for i, in := range x.Ins {
		x.Ins[i].Key = roomyOps(in.Key)
	}
	for i, o := range x.Outs {
		x.Outs[i].Lock = roomyOps(o.Lock)
	}
	x.Ins, x.Outs = room(x.Ins, api.In{P: api.Point{Tx: 77}}), room(x.Outs, out(77))
	return x
}

func roomyTxs(l []api.Tx) []api.Tx {
	for i, x := range l {
		l[i] = roomyTx(x)
	}
	return room(l, paid(77, 77))
}

func roomyBlock(b api.Block) api.Block {
	b.Txs = roomyTxs(b.Txs)
	return b
}

func roomy(t *testing.T) handed {
	t.Helper()
	s := busy(t)
	r := handed{k: s.k, n: s.n, b: roomyBlock(on(d, 5, 1, waits()[3])), t: roomyTx(spend(5, 0, 9)), to: roomyOps(push(1))}
	r.k.Texts = room(r.k.Texts, "spare")
	for i, x := range r.n.T.Blocks {
		r.n.T.Blocks[i] = roomyBlock(x)
	}
	r.n.T.Names, r.n.T.Blocks = room(r.n.T.Names, 77), room(r.n.T.Blocks, on(77, 77, 77))
	r.n.Pool = roomyTxs(r.n.Pool)
	return r
}

// all is a list and one more behind it.
func all[T any](l []T) []T { return slices.Clone(l[:len(l)+1]) }

func allTx(x api.Tx) api.Tx {
	w := api.Tx{Height: x.Height}
	for _, in := range x.Ins {
		w.Ins = append(w.Ins, api.In{P: in.P, Key: all(in.Key)})
	}
	for _, o := range x.Outs {
		w.Outs = append(w.Outs, api.Out{Coin: o.Coin, Lock: all(o.Lock)})
	}
	w.Ins, w.Outs = append(w.Ins, all(x.Ins)[len(x.Ins)]), append(w.Outs, all(x.Outs)[len(x.Outs)])
	return w
}

func allTxs(l []api.Tx) []api.Tx {
	var w []api.Tx
	for _, x := range l {
		w = append(w, allTx(x))
	}
	return append(w, all(l)[len(l)])
}

func allBlock(b api.Block) api.Block {
	b.Txs = allTxs(b.Txs)
	return b
}

// whole is all of it, what stands in the spare room too.
func (r handed) whole() handed {
	w := handed{b: allBlock(r.b), t: allTx(r.t), to: all(r.to)}
	w.k.Texts = all(r.k.Texts)
	w.n = api.Node{Tip: r.n.Tip, Pool: allTxs(r.n.Pool)}
	w.n.T.Names = all(r.n.T.Names)
	for _, b := range r.n.T.Blocks {
		w.n.T.Blocks = append(w.n.T.Blocks, allBlock(b))
	}
	w.n.T.Blocks = append(w.n.T.Blocks, all(r.n.T.Blocks)[len(r.n.T.Blocks)])
	return w
}

// Each of these changes all memory that something has.

func spoilOps(l []api.Op) {
	l = l[:cap(l)]
	for i := range l {
		l[i] = api.Op{Kind: 99}
	}
}

func spoilTx(x api.Tx) {
	ins, outs := x.Ins[:cap(x.Ins)], x.Outs[:cap(x.Outs)]
	for i := range ins {
		spoilOps(ins[i].Key)
		ins[i] = api.In{P: api.Point{Tx: 99}}
	}
	for i := range outs {
		spoilOps(outs[i].Lock)
		outs[i] = api.Out{Coin: 99}
	}
}

func spoilTxs(l []api.Tx) {
	l = l[:cap(l)]
	for i := range l {
		spoilTx(l[i])
		l[i] = api.Tx{Height: 99}
	}
}

func spoilTree(t api.Tree) {
	names, blocks := t.Names[:cap(t.Names)], t.Blocks[:cap(t.Blocks)]
	for i := range names {
		names[i] = 99
	}
	for i := range blocks {
		spoilTxs(blocks[i].Txs)
		blocks[i] = api.Block{Parent: 99}
	}
}

func spoilBook(k api.Book) {
	l := k.Texts[:cap(k.Texts)]
	for i := range l {
		l[i] = "changed"
	}
}

func spoilCoins(l []api.Coin) {
	l = l[:cap(l)]
	for i := range l {
		spoilOps(l[i].O.Lock)
		l[i] = api.Coin{Height: 99}
	}
}

func TestCallsOnlyReadAndAnswerNewMemory(t *testing.T) {
	r, want := roomy(t), roomy(t).whole()
	for what, call := range map[string]func() api.Errno{
		"Check": func() api.Errno { return Check(r.k, r.n) },
		"Take": func() api.Errno {
			k, n, _, e := Take(r.k, r.n, r.b)
			spoilBook(k)
			spoilTree(n.T)
			spoilTxs(n.Pool)
			return e
		},
		"Offer": func() api.Errno {
			k, n, e := Offer(r.k, r.n, r.t)
			spoilBook(k)
			spoilTree(n.T)
			spoilTxs(n.Pool)
			return e
		},
		"Make": func() api.Errno {
			k, n, b, e := Make(r.k, r.n, 1, 0, r.to)
			spoilBook(k)
			spoilTree(n.T)
			spoilTxs(n.Pool)
			spoilTxs(b.Txs)
			return e
		},
		"Coins": func() api.Errno {
			l, e := Coins(r.k, r.n)
			spoilCoins(l)
			return e
		},
		"Balance": func() api.Errno {
			_, e := Balance(r.k, r.n, r.to)
			return e
		},
		"Same": func() api.Errno {
			Same(r.n, r.n)
			return api.OK
		},
	} {
		if e := call(); e != api.OK || !reflect.DeepEqual(r.whole(), want) {
			t.Fatalf("%s: %v, what was handed in is now %v", what, e, r.whole())
		}
	}
}

func TestCallsThatFailOnlyRead(t *testing.T) {
	r, want := roomy(t), roomy(t).whole()
	untaken(t, "one that is there", r.k, r.n, r.n.T.Blocks[2], api.ErrTwice)
	untaken(t, "what can't be connected", r.k, r.n, on(d, 5, 65), api.ErrSum)
	unoffered(t, "one that waits", r.k, r.n, r.n.Pool[1], api.ErrTwice)
	unmade(t, "no work", r.k, r.n, 0, 0, r.to, api.ErrRange)
	if !reflect.DeepEqual(r.whole(), want) {
		t.Fatalf("what was handed in is now %v", r.whole())
	}
}

// allTxsOf are all transactions of an answer, those of its blocks, those that wait, and others.
func allTxsOf(n api.Node, others []api.Tx) []api.Tx {
	var l []api.Tx
	for _, b := range n.T.Blocks {
		l = append(l, b.Txs...)
	}
	return slices.Concat(l, n.Pool, others)
}

// checkApart tells of transactions that share memory: one is spoilt, and the others must be as they were.
func checkApart(t *testing.T, what string, answer func() []api.Tx) {
	t.Helper()
	for i := range answer() {
		l := answer()
		want := clone.Txs(l)
		spoilTx(l[i])
		l[i], want[i] = api.Tx{}, api.Tx{}
		for at, x := range l {
			if !tx.Same(x, want[at]) {
				t.Errorf("%s: of one answer %d and %d share memory", what, i, at)
			}
		}
	}
}

func TestListsOfOneAnswerAreApart(t *testing.T) {
	// All that is handed in shares one lock; what waits is what a block has, too.
	lock := push(1)
	s := busy(t)
	for _, x := range allTxsOf(s.n, nil) {
		for i := range x.Outs {
			x.Outs[i].Lock = lock
		}
	}
	x, b := to(spend(5, 0, 9), lock), on(d, 5, 1, s.n.Pool[3])
	b.Txs[0].Outs[0].Lock = lock
	checkApart(t, "Take", func() []api.Tx {
		_, n, _, e := Take(s.k, s.n, b)
		if e != api.OK {
			t.Fatal(e)
		}
		return allTxsOf(n, nil)
	})
	checkApart(t, "Offer", func() []api.Tx {
		_, n, e := Offer(s.k, s.n, x)
		if e != api.OK {
			t.Fatal(e)
		}
		return allTxsOf(n, nil)
	})
	checkApart(t, "Make", func() []api.Tx {
		_, n, b, e := Make(s.k, s.n, 1, 0, lock)
		if e != api.OK {
			t.Fatal(e)
		}
		others := clone.Txs(b.Txs)
		for i, x := range b.Txs {
			others[i], b.Txs[i] = x, api.Tx{}
		}
		return allTxsOf(n, others)
	})
	coins, _ := Coins(s.k, s.n)
	for i := range coins {
		was := clone.Coins(coins[i+1:])
		spoilCoins(coins[i : i+1 : i+1])
		if !unspent.Same(coins[i+1:], was) {
			t.Errorf("the coin %d shares memory with others", i)
		}
	}
	if !slices.Equal(lock, push(1)) || Check(s.k, s.n) != api.OK {
		t.Error("what was handed in is changed")
	}
}
