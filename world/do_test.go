package world

import (
	"math"
	"slices"
	"testing"

	"cairn/api"
	"cairn/block"
	"cairn/clone"
	"cairn/tree"
	"cairn/tx"
)

// P11.2

// undone holds a want against what Do says of a happening that can't be.
func undone(t *testing.T, what string, w api.World, x api.Happening, want api.Errno) {
	t.Helper()
	if then, e := Do(w, x); !isNothing(then) || e != want {
		t.Errorf("%s: %v, %v, want %v", what, then, e, want)
	}
}

// becomes holds a happening against what is changed by it, all else being as it was.
func becomes(t *testing.T, what string, w api.World, x api.Happening, change func(w *api.World)) {
	t.Helper()
	want := clone.World(w)
	change(&want)
	got, e := Do(w, x)
	if !sameWorld(got, want) || e != api.OK {
		t.Errorf("%s: %v, %v, want %v", what, got, e, want)
	}
	if e := Check(got); e != api.OK {
		t.Errorf("%s: then Check says %v", what, e)
	}
}

// write puts texts behind those of a book: of the transactions, then of the block, if there is one.
func write(w *api.World, l []api.Tx, b ...api.Block) {
	for _, x := range l {
		if s, _ := tx.Print(x); !slices.Contains(w.Book.Texts, s) {
			w.Book.Texts = append(w.Book.Texts, s)
		}
	}
	for _, x := range b {
		s, _ := block.Print(x)
		w.Book.Texts = append(w.Book.Texts, s)
	}
}

// grow lets a node have a block behind the others, and that be its best one; the book has its texts.
func grow(w *api.World, i int, b api.Block) {
	write(w, b.Txs, b)
	n := &w.Nodes[i]
	n.T.Names = append(n.T.Names, len(w.Book.Texts))
	n.T.Blocks = append(n.T.Blocks, b)
	n.Tip = len(w.Book.Texts)
}

func TestDoOfNoKind(t *testing.T) {
	for _, kind := range []int{0, -1, api.Fetch + 1, math.MaxInt, math.MinInt} {
		x := mine(0, 1, 0, 7)
		x.Kind = kind
		undone(t, "of no kind", some(t), x, api.ErrForm)
		undone(t, "of no kind, at no node, of no message", some(t), api.Happening{Kind: kind, Node: -1, To: -1, K: -1}, api.ErrForm)
	}
}

func TestDoWithoutItsNode(t *testing.T) {
	w := crowded(some(t), api.MaxNet)
	for _, i := range []int{-1, 3, math.MaxInt, math.MinInt} {
		for _, x := range []api.Happening{
			mine(i, 1, 0, 7), mine(i, 0, -1, 9999999), submit(i, waits()), submit(i, api.Tx{}), forget(i),
			share(i, 0), share(i, i), share(i, -1), fetch(i, 0, 1), fetch(i, i, 0), fetch(i, -1, 0),
		} {
			undone(t, "at no node", w, x, api.ErrWho)
		}
	}
}

func TestMine(t *testing.T) {
	for i, others := range [][]int{{1, 2}, {0, 2}, {0, 1}} {
		b := api.Block{Height: 1, Work: 5, Nonce: 6, Txs: []api.Tx{{Height: 1, Outs: []api.Out{{Coin: 64, Lock: asks(7)}}}}}
		becomes(t, "the first block", fresh(t, 3), mine(i, 5, 6, 7), func(w *api.World) {
			grow(w, i, b)
			w.Net = net(tell(i, others[0], b), tell(i, others[1], b))
		})
	}
	becomes(t, "one node", fresh(t, 1), mine(0, 1, 0, 7), func(w *api.World) { grow(w, 0, blockA()) })
	becomes(t, "behind the messages", some(t), mine(1, 1, 0, 7), func(w *api.World) {
		grow(w, 1, on(b, 3, 64))
		w.Net = append(w.Net, tell(1, 0, on(b, 3, 64)), tell(1, 2, on(b, 3, 64)))
	})
	becomes(t, "of what waits", busy(t), mine(1, 1, 0, 7), func(w *api.World) {
		x := on(b, 3, 64+14, waits(), later())
		grow(w, 1, x)
		w.Nodes[1].Pool = nil
		w.Net = net(tell(1, 0, x), tell(1, 2, x))
	})
	becomes(t, "the same one as another node", some(t), mine(2, 1, 0, 7), func(w *api.World) {
		w.Nodes[2] = clone.Node(w.Nodes[0])
		w.Net = append(w.Net, tell(2, 0, blockA()), tell(2, 1, blockA()))
	})
	becomes(t, "of other fields nothing is heeded", fresh(t, 1), api.Happening{Kind: api.Mine, To: -9, Work: 1, N: 7, T: api.Tx{Height: -1}}, func(w *api.World) {
		grow(w, 0, blockA())
	})
}

func TestMineWithoutRoomForAll(t *testing.T) {
	for lacks := range 3 {
		w := crowded(some(t), api.MaxNet-lacks)
		becomes(t, "what finds no room is lost", w, mine(0, 1, 0, 9), func(w *api.World) {
			x := on(a, 2, 64)
			x.Txs[0].Outs[0].Lock = asks(9)
			grow(w, 0, x)
			w.Net = append(w.Net, net(tell(0, 1, x), tell(0, 2, x))[:lacks]...)
		})
	}
}

func TestMineOfTheBounds(t *testing.T) {
	for _, x := range []api.Happening{mine(0, 1, 0, -1000000), mine(0, api.MaxWork, api.MaxCoin, 1000000)} {
		w := after(t, fresh(t, 1), x)
		got := w.Nodes[0].T.Blocks[0]
		if got.Work != x.Work || got.Nonce != x.K || !slices.Equal(got.Txs[0].Outs[0].Lock, asks(x.N)) {
			t.Errorf("%v: %v", x, got)
		}
	}
	for what, x := range map[string]api.Happening{
		"no work": mine(0, 0, 0, 7), "too much work": mine(0, api.MaxWork+1, 0, 7),
		"a nonce below 0": mine(0, 1, -1, 7), "a nonce that is too great": mine(0, 1, api.MaxCoin+1, 7),
		"a lock of too much": mine(0, 1, 0, 1000001), "a lock of too little": mine(0, 1, 0, -1000001),
	} {
		undone(t, what, some(t), x, api.ErrRange)
	}
	undone(t, "too many blocks", tall(t, 1, api.MaxBlocks), mine(0, 1, 0, 7), api.ErrFull)
	undone(t, "too many texts", written(some(t), 1), mine(0, 1, 0, 9), api.ErrFull)
	after(t, written(some(t), 2), mine(0, 1, 0, 9))
}

func TestSubmit(t *testing.T) {
	w := some(t)
	becomes(t, "the first that waits", w, submit(1, waits()), func(w *api.World) {
		write(w, []api.Tx{waits()})
		w.Nodes[1].Pool = []api.Tx{waits()}
		w.Net = append(w.Net, pay(1, 0, waits()), pay(1, 2, waits()))
	})
	becomes(t, "behind another one", after(t, w, submit(1, waits())), submit(1, later()), func(w *api.World) {
		write(w, []api.Tx{later()})
		w.Nodes[1].Pool = append(w.Nodes[1].Pool, later())
		w.Net = append(w.Net, pay(1, 0, later()), pay(1, 2, later()))
	})
	for lacks := range 3 {
		becomes(t, "what finds no room is lost", crowded(w, api.MaxNet-lacks), submit(1, waits()), func(w *api.World) {
			write(w, []api.Tx{waits()})
			w.Nodes[1].Pool = []api.Tx{waits()}
			w.Net = append(w.Net, net(pay(1, 0, waits()), pay(1, 2, waits()))[:lacks]...)
		})
	}
	undone(t, "not ripe yet", w, submit(0, waits()), api.ErrLate)
	undone(t, "not there", w, submit(2, waits()), api.ErrSpent)
	undone(t, "not its key", w, submit(1, spend(rewardA, 8, 60)), api.ErrKey)
	undone(t, "too much", w, submit(1, spend(rewardA, 7, 65)), api.ErrSum)
	undone(t, "a reward", w, submit(1, blockA().Txs[0]), api.ErrForm)
	undone(t, "nothing", w, submit(1, api.Tx{}), api.ErrForm)
	undone(t, "one that waits", busy(t), submit(1, waits()), api.ErrTwice)
	undone(t, "one that can't wait behind others", busy(t), submit(1, spend(rewardA, 7, 59)), api.ErrSpent)
	undone(t, "too many texts", written(w, 0), submit(1, waits()), api.ErrFull)
	after(t, written(w, 1), submit(1, waits()))
}

func TestForget(t *testing.T) {
	w := after(t, busy(t), fetch(0, 1, 9))
	becomes(t, "what waits", w, forget(1), func(w *api.World) { w.Nodes[1].Pool = nil })
	for _, i := range []int{0, 2} {
		becomes(t, "where nothing waits", w, forget(i), func(w *api.World) {})
	}
	becomes(t, "all may wait again", after(t, w, forget(1)), submit(1, waits()), func(w *api.World) {
		w.Nodes[1].Pool = []api.Tx{waits()}
		w.Net = append(w.Net, pay(1, 0, waits()), pay(1, 2, waits()))
	})
}

func TestShare(t *testing.T) {
	w := some(t)
	for _, to := range []int{0, 2} {
		becomes(t, "the best one", w, share(1, to), func(w *api.World) { w.Net = append(w.Net, tell(1, to, blockB())) })
	}
	becomes(t, "the only one", w, share(0, 1), func(w *api.World) { w.Net = append(w.Net, tell(0, 1, blockA())) })
	becomes(t, "room for one", crowded(w, api.MaxNet-1), share(0, 1), func(w *api.World) {
		w.Net = append(w.Net, tell(0, 1, blockA()))
	})
	undone(t, "nothing to tell", w, share(2, 0), api.ErrWho)
	refusesWay(t, func(i, to int) api.Happening { return share(i, to) })
	undone(t, "no room is ahead of nothing to tell", crowded(w, api.MaxNet), share(2, 0), api.ErrFull)
	undone(t, "oneself is ahead of nothing to tell", w, share(2, 2), api.ErrTwice)
}

func TestFetch(t *testing.T) {
	w := some(t)
	for _, name := range []int{1, a, 99, api.MaxBook} {
		becomes(t, "a name", w, fetch(2, 0, name), func(w *api.World) { w.Net = append(w.Net, ask(2, 0, name)) })
	}
	becomes(t, "one that it has", w, fetch(0, 1, a), func(w *api.World) { w.Net = append(w.Net, ask(0, 1, a)) })
	becomes(t, "room for one", crowded(w, api.MaxNet-1), fetch(0, 1, a), func(w *api.World) { w.Net = append(w.Net, ask(0, 1, a)) })
	for _, name := range []int{0, -1, api.MaxBook + 1, math.MaxInt, math.MinInt} {
		undone(t, "no name", w, fetch(0, 1, name), api.ErrRange)
		undone(t, "no room is ahead of no name", crowded(w, api.MaxNet), fetch(0, 1, name), api.ErrFull)
		undone(t, "oneself is ahead of no name", w, fetch(0, 0, name), api.ErrTwice)
		undone(t, "nobody is ahead of no name", w, fetch(0, 3, name), api.ErrWho)
	}
	refusesWay(t, func(i, to int) api.Happening { return fetch(i, to, a) })
}

// refusesWay holds what is sent from one node to another against ways that aren't.
func refusesWay(t *testing.T, x func(i, to int) api.Happening) {
	t.Helper()
	w := some(t)
	full := crowded(w, api.MaxNet)
	for _, to := range []int{-1, 3, math.MaxInt, math.MinInt} {
		undone(t, "to nobody", w, x(0, to), api.ErrWho)
		undone(t, "to nobody, without room", full, x(0, to), api.ErrWho)
	}
	for i := range 2 {
		undone(t, "to oneself", w, x(i, i), api.ErrTwice)
		undone(t, "to oneself, without room", full, x(i, i), api.ErrTwice)
		undone(t, "without room", full, x(i, 1-i), api.ErrFull)
	}
}

func TestLoseAndDouble(t *testing.T) {
	w := some(t)
	w.Net = append(w.Net, pay(0, 1, waits()), ask(2, 0, 9))
	for k, m := range w.Net {
		becomes(t, "lost", w, lose(k), func(w *api.World) { w.Net = slices.Delete(w.Net, k, k+1) })
		becomes(t, "twice", w, double(k), func(w *api.World) { w.Net = append(w.Net, m) })
	}
	// Nobody asks what else a message has, and it must be there once more as it is.
	odd := api.Message{Kind: api.Ask, From: 1, To: 2, Name: 3, B: api.Block{Parent: -4, Txs: []api.Tx{{}, waits()}}, T: later()}
	w.Net[1] = odd
	becomes(t, "twice, with all that it has", w, double(1), func(w *api.World) { w.Net = append(w.Net, odd) })
	becomes(t, "its node is nobody", w, api.Happening{Kind: api.Lose, Node: -1, To: -1, K: 1}, func(w *api.World) { w.Net = slices.Delete(w.Net, 1, 2) })
	becomes(t, "room for one", crowded(w, api.MaxNet-1), double(7), func(w *api.World) { *w = crowded(*w, api.MaxNet) })
	full := crowded(w, api.MaxNet)
	undone(t, "no room", full, double(0), api.ErrFull)
	becomes(t, "lost where there is no room", full, lose(api.MaxNet-1), func(w *api.World) { *w = crowded(*w, api.MaxNet-1) })
	for _, k := range []int{-1, len(w.Net), math.MaxInt, math.MinInt} {
		for _, x := range []api.Happening{lose(k), double(k), arrive(k)} {
			undone(t, "no message", w, x, api.ErrWho)
		}
	}
	for _, x := range []api.Happening{lose(api.MaxNet), double(api.MaxNet), arrive(api.MaxNet), double(-1)} {
		undone(t, "no message, without room", full, x, api.ErrWho)
	}
	for _, x := range []api.Happening{lose(0), double(0), arrive(0)} {
		undone(t, "no messages", fresh(t, 4), x, api.ErrWho)
	}
}

// sent is the world, with this message alone on its way.
func sent(w api.World, m api.Message) api.World {
	w.Net = net(m)
	return w
}

// has lets a node have a block of this name, without asking.
func has(n *api.Node, name int, b api.Block) {
	n.T.Names, n.T.Blocks = append(n.T.Names, name), append(n.T.Blocks, b)
}

func TestArriveOfATell(t *testing.T) {
	w := some(t)
	becomes(t, "the first block", sent(w, tell(0, 2, blockA())), arrive(0), func(w *api.World) {
		has(&w.Nodes[2], a, blockA())
		w.Nodes[2].Tip, w.Net = a, nil
	})
	becomes(t, "on another one", sent(w, tell(1, 0, blockB())), arrive(0), func(w *api.World) {
		has(&w.Nodes[0], b, blockB())
		w.Nodes[0].Tip, w.Net = b, nil
	})
	becomes(t, "that isn't the best", sent(w, tell(0, 1, on(0, 1, 9))), arrive(0), func(w *api.World) {
		write(w, on(0, 1, 9).Txs, on(0, 1, 9))
		has(&w.Nodes[1], free+1, on(0, 1, 9))
		w.Net = nil
	})
	becomes(t, "after which less waits", sent(busy(t), tell(0, 1, on(b, 3, 1, waits()))), arrive(0), func(w *api.World) {
		grow(w, 1, on(b, 3, 1, waits()))
		w.Nodes[1].Pool, w.Net = []api.Tx{later()}, nil
	})
	becomes(t, "among others", w, arrive(1), func(w *api.World) {
		has(&w.Nodes[0], b, blockB())
		w.Nodes[0].Tip, w.Net = b, slices.Delete(w.Net, 1, 2)
	})
}

func TestArriveOfATellThatStandsOnNothingKnown(t *testing.T) {
	w := some(t)
	becomes(t, "asks for what it lacks", sent(w, tell(1, 2, blockB())), arrive(0), func(w *api.World) { w.Net = net(ask(2, 1, a)) })
	becomes(t, "asks for what nobody knows", sent(w, tell(1, 0, on(99, 2, 9))), arrive(0), func(w *api.World) { w.Net = net(ask(0, 1, 99)) })
	becomes(t, "behind others", w, arrive(2), func(w *api.World) { w.Net = append(w.Net[:2], ask(2, 1, a)) })
	// There is room for what it asks, as what it was told is taken away.
	full := crowded(w, api.MaxNet)
	full.Net[3] = tell(1, 2, blockB())
	becomes(t, "without room", full, arrive(3), func(w *api.World) { w.Net = append(slices.Delete(w.Net, 3, 4), ask(2, 1, a)) })
	lost := sent(w, tell(1, 0, on(99, 2, 9)))
	becomes(t, "no names for it, which is ahead", written(lost, 1), arrive(0), func(w *api.World) { w.Net = nil })
	becomes(t, "names for it", written(lost, 2), arrive(0), func(w *api.World) { w.Net = net(ask(0, 1, 99)) })
}

func TestArriveOfATellThatCantBeTaken(t *testing.T) {
	w := some(t)
	high := tall(t, 2, api.MaxBlocks)
	for _, x := range []struct {
		what string
		w    api.World
		b    api.Block
		want api.Errno
	}{
		{"is there", w, blockA(), api.ErrTwice},
		{"gives too much", w, on(a, 2, 65), api.ErrSum},
		{"has another height", w, on(a, 3, 64), api.ErrForm},
		{"spends what isn't there", w, on(a, 2, 64, spend(99, 1, 1)), api.ErrSpent},
		{"spends too early", w, on(a, 2, 64, waits()), api.ErrLate},
		{"finds no room", high, on(0, 1, 9), api.ErrFull},
		{"finds no names", written(w, 1), on(a, 2, 9), api.ErrFull},
	} {
		x.w = sent(x.w, tell(1, 0, x.b))
		if _, _, _, e := saidTake(x.w, 0, x.b); e != x.want {
			t.Errorf("%s: Take says %v, want %v", x.what, e, x.want)
		}
		becomes(t, x.what, x.w, arrive(0), func(w *api.World) { w.Net = nil })
	}
}

func TestArriveOfAnAsk(t *testing.T) {
	w := some(t)
	becomes(t, "the best one", sent(w, ask(2, 1, b)), arrive(0), func(w *api.World) { w.Net = net(tell(1, 2, blockB())) })
	becomes(t, "another one", sent(w, ask(2, 1, a)), arrive(0), func(w *api.World) { w.Net = net(tell(1, 2, blockA())) })
	becomes(t, "one that it has itself", sent(w, ask(1, 0, a)), arrive(0), func(w *api.World) { w.Net = net(tell(0, 1, blockA())) })
	for _, m := range net(ask(2, 0, b), ask(0, 2, a), ask(0, 1, rewardA), ask(0, 1, free), ask(0, 1, api.MaxBook)) {
		becomes(t, "one that isn't there", sent(w, m), arrive(0), func(w *api.World) { w.Net = nil })
	}
	full := crowded(w, api.MaxNet)
	full.Net[4] = ask(2, 1, b)
	becomes(t, "without room", full, arrive(4), func(w *api.World) { w.Net = append(slices.Delete(w.Net, 4, 5), tell(1, 2, blockB())) })
	odd := ask(2, 1, b)
	odd.B, odd.T = on(0, 1, 5), waits()
	becomes(t, "of what else it has nothing is told", sent(w, odd), arrive(0), func(w *api.World) { w.Net = net(tell(1, 2, blockB())) })
}

func TestArriveOfAPay(t *testing.T) {
	w := some(t)
	becomes(t, "waits", sent(w, pay(2, 1, waits())), arrive(0), func(w *api.World) {
		write(w, []api.Tx{waits()})
		w.Nodes[1].Pool, w.Net = []api.Tx{waits()}, nil
	})
	becomes(t, "waits behind another one", sent(after(t, w, submit(1, waits())), pay(2, 1, later())), arrive(0), func(w *api.World) {
		write(w, []api.Tx{later()})
		w.Nodes[1].Pool, w.Net = []api.Tx{waits(), later()}, nil
	})
	for what, m := range map[string]api.Message{
		"too early": pay(1, 0, waits()), "not there": pay(1, 2, waits()), "not its key": pay(0, 1, spend(rewardA, 8, 9)),
		"a reward": pay(0, 1, blockA().Txs[0]), "too much": pay(0, 1, spend(rewardA, 7, 65)),
	} {
		becomes(t, what, sent(w, m), arrive(0), func(w *api.World) { w.Net = nil })
	}
	becomes(t, "waits already", sent(busy(t), pay(0, 1, waits())), arrive(0), func(w *api.World) { w.Net = nil })
	becomes(t, "finds no name", written(sent(w, pay(0, 1, waits())), 0), arrive(0), func(w *api.World) { w.Net = nil })
}

func TestWhatIsAskedForComes(t *testing.T) {
	w := after(t, some(t), arrive(2), arrive(2), arrive(2), share(1, 2), lose(0), lose(0), arrive(0))
	if n := w.Nodes[2]; !slices.Equal(n.T.Names, []int{a, b}) || n.Tip != b || len(w.Net) != 0 {
		t.Errorf("%v, %v", n, w.Net)
	}
	if work, e := tree.Work(w.Nodes[2].T, b); work != 2 || e != api.OK {
		t.Errorf("%v, %v", work, e)
	}
}
