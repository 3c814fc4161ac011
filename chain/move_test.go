package chain

import (
	"slices"
	"testing"

	"cairn/api"
	"cairn/block"
	"cairn/clone"
	"cairn/tree"
	"cairn/unspent"
)

func moved(t *testing.T, what string, x *grove, coins []api.Coin, from, to int, want []api.Coin) {
	t.Helper()
	if got, e := Move(x.k, x.t, coins, from, to); !unspent.Same(got, want) || e != api.OK {
		t.Errorf("%s, from %d to %d: %v, %v, want %v", what, from, to, got, e, want)
	}
}

func unmoved(t *testing.T, what string, k api.Book, x api.Tree, coins []api.Coin, from, to int, want api.Errno) {
	t.Helper()
	if got, e := Move(k, x, coins, from, to); got != nil || e != want {
		t.Errorf("%s, from %d to %d: %v, %v, want %v", what, from, to, got, e, want)
	}
}

// P8.2

func TestMove(t *testing.T) {
	x, coins := some(t), someCoins()
	for from := range coins {
		for to := range coins {
			moved(t, "its coins", x, coins[from], from, to, coins[to])
		}
	}
	moved(t, "nothing in nothing", &grove{}, nil, 0, 0, nil)
	moved(t, "an empty list", x, []api.Coin{}, 0, d, coins[d])
	long := tall(t)
	last := long.t.Names[api.MaxBlocks-1]
	top, e := Coins(long.k, long.t, last)
	if e != api.OK {
		t.Fatal(e)
	}
	moved(t, "as many up as may be", long, nil, 0, last, top)
	moved(t, "as many down as may be", long, top, last, 0, nil)
	moved(t, "as many as may be, all of which stay", long, top, last, last, top)
}

func TestMoveLeavesOtherCoinsAlone(t *testing.T) {
	x, coins := some(t), someCoins()
	low, high := kept(1, 5, 3, 9), kept(110, 0, 7, 9)
	with := func(l []api.Coin) []api.Coin {
		i := slices.IndexFunc(l, func(c api.Coin) bool { return c.P.Tx > 1 })
		if i < 0 {
			i = len(l)
		}
		return append(slices.Insert(slices.Clone(l), i, low), high)
	}
	for from := range coins {
		for to := range coins {
			moved(t, "others beside its coins", x, with(coins[from]), from, to, with(coins[to]))
		}
	}
}

func TestMoveTellsTheBookFirst(t *testing.T) {
	ends := append(strangers(), 0, a, d, h)
	for _, k := range wrongBooks() {
		for _, from := range ends {
			for _, to := range []int{from, 0, d, 99} {
				unmoved(t, k.what, k.k, some(t).t, someCoins()[from], from, to, k.want)
			}
		}
		for _, x := range wrongTrees(t) {
			unmoved(t, k.what+" is ahead of "+x.what, k.k, x.t, nil, a, 99, k.want)
		}
	}
}

func TestMoveTellsThePathsNext(t *testing.T) {
	x := some(t)
	for _, coins := range append(allWrongCoins(), nil, someCoins()[d]) {
		for _, name := range strangers() {
			for _, other := range []int{0, a, d, h, name} {
				unmoved(t, "no such name to come from", x.k, x.t, coins, name, other, api.ErrWho)
				unmoved(t, "no such name to go to", x.k, x.t, coins, other, name, api.ErrWho)
			}
		}
		for _, w := range wrongTrees(t) {
			for _, ends := range [][2]int{{0, 0}, {a, a}, {d, h}, {a, 99}, {99, a}} {
				unmoved(t, w.what, x.k, w.t, coins, ends[0], ends[1], w.want)
			}
		}
	}
}

// wrongCoins are lists that are none, and what is wrong with each.
func wrongCoins() map[api.Errno][]api.Coin {
	return map[api.Errno][]api.Coin{
		api.ErrMany:  make([]api.Coin, api.MaxBook*api.MaxOuts+1),
		api.ErrRange: {made(1, 64, 1), made(3, 0, 2)},
		api.ErrForm:  {{P: api.Point{Tx: 1}, O: api.Out{Coin: 1, Lock: make([]api.Op, 1)}, Height: 1}},
		api.ErrTwice: {made(1, 64, 1), made(1, 64, 1)},
		api.ErrFull:  {made(1, api.MaxCoin, 1), made(3, 1, 2)},
	}
}

func allWrongCoins() [][]api.Coin {
	var l [][]api.Coin
	for _, coins := range wrongCoins() {
		l = append(l, coins)
	}
	return l
}

func TestMoveOfWrongCoins(t *testing.T) {
	x := some(t)
	worse := x.put(t, on(d, 5, 65))
	for want, coins := range wrongCoins() {
		for _, ends := range [][2]int{{0, a}, {a, 0}, {a, d}, {d, a}, {d, h}, {c, j}} {
			unmoved(t, "wrong coins", x.k, x.t, coins, ends[0], ends[1], want)
		}
		unmoved(t, "what comes up is behind wrong coins", x.k, x.t, coins, d, worse, want)
		unmoved(t, "what was done is ahead of wrong coins", x.k, x.t, coins, worse, d, api.ErrSum)
		// Nothing is connected to them, so nobody asks what they are.
		for end := range someCoins() {
			moved(t, "wrong coins stay", x, coins, end, end, coins)
		}
	}
}

func TestMoveOfOtherCoins(t *testing.T) {
	x, coins := some(t), someCoins()
	spentAgain := append([]api.Coin{made(1, 64, 1)}, coins[c]...)
	otherOut := clone.Coins(coins[b])
	otherOut[1].O.Coin = 11
	for _, w := range []struct {
		what     string
		coins    []api.Coin
		from, to int
		want     api.Errno
	}{
		{"none", nil, a, 0, api.ErrSpent},
		{"those of a lower one", coins[a], b, a, api.ErrSpent},
		{"those of another branch", coins[h], d, b, api.ErrSpent},
		{"those of a higher one, which has spent", coins[c], a, 0, api.ErrSpent},
		{"one of another amount", otherOut, b, a, api.ErrSpent},
		{"what was spent is there", spentAgain, c, b, api.ErrTwice},
		{"the last one's error is ahead of that of one below", spentAgain, d, a, api.ErrSpent},
		{"down is ahead of up", coins[a], d, j, api.ErrSpent},
		{"what comes up is there", coins[b], a, b, api.ErrTwice},
		{"what comes up spends what isn't there", nil, b, c, api.ErrSpent},
		{"what comes up last gives what is there", coins[h], 0, c, api.ErrTwice},
	} {
		unmoved(t, w.what, x.k, x.t, w.coins, w.from, w.to, w.want)
	}
}

func TestMoveRefusesWhatConnectRefuses(t *testing.T) {
	for _, w := range bads() {
		x, coins := some(t), someCoins()
		below := w.b.Parent
		name := x.put(t, w.b)
		above := x.put(t, on(name, w.b.Height+1, 1))
		beside := x.put(t, on(a, 2, 65, spend(99, 0, 1)))
		for end := range coins {
			unmoved(t, "up to "+w.what, x.k, x.t, coins[end], end, name, w.want)
			unmoved(t, "up past "+w.what, x.k, x.t, coins[end], end, above, w.want)
			unmoved(t, "down from "+w.what, x.k, x.t, coins[end], name, end, w.want)
			unmoved(t, "down past "+w.what, x.k, x.t, coins[end], above, end, w.want)
		}
		unmoved(t, "down to "+w.what, x.k, x.t, coins[below], above, name, w.want)
		unmoved(t, "what was done is ahead of what comes", x.k, x.t, coins[below], name, beside, w.want)
		unmoved(t, "what was done is ahead of its coins", x.k, x.t, nil, above, beside, w.want)
		unmoved(t, "down is ahead of up", x.k, x.t, coins[a], beside, above, api.ErrSpent)
		unmoved(t, "down is ahead of up, by its coins", x.k, x.t, coins[a], j, above, api.ErrSpent)
		moved(t, w.what+" stays", x, coins[below], name, name, coins[below])
		checkUpFrom(t, x, w, name, above)
	}
}

// checkUpFrom goes from a bad block to the one that stands on it: what stays isn't connected, so its error isn't told.
func checkUpFrom(t *testing.T, x *grove, w bad, name, above int) {
	t.Helper()
	coins := someCoins()[w.b.Parent]
	want, _, e := block.Connect(x.k, coins, on(name, w.b.Height+1, 1))
	if e != api.OK {
		t.Fatal(w.what, e)
	}
	moved(t, "up from "+w.what, x, coins, name, above, want)
}

func TestMoveWithAnotherBook(t *testing.T) {
	x := some(t)
	full := numbered(api.MaxBook)
	unmoved(t, "no room, up", full, x.t, nil, 0, a, api.ErrFull)
	unmoved(t, "no room, down", full, x.t, someCoins()[a], a, 0, api.ErrFull)
	unmoved(t, "two blocks of one name, up", api.Book{}, x.t, nil, 0, b, api.ErrTwice)
	unmoved(t, "two blocks of one name, down", api.Book{}, x.t, someCoins()[b], b, 0, api.ErrTwice)
	moved(t, "all stays", &grove{k: full, t: x.t}, someCoins()[d], d, d, someCoins()[d])
	moved(t, "one block", &grove{t: x.t}, []api.Coin{made(1, 64, 1)}, a, g, []api.Coin{made(1, 30, 1)})
}

// without are the names of one path that aren't on another one.
func without(t *testing.T, x *grove, name, other int) []int {
	t.Helper()
	path, e := tree.Path(x.t, name)
	if e != api.OK {
		t.Fatal(e)
	}
	theirs, e := tree.Path(x.t, other)
	if e != api.OK {
		t.Fatal(e)
	}
	return slices.DeleteFunc(path, func(n int) bool { return slices.Contains(theirs, n) })
}

// plainMove goes down and up as the chapter tells it, with all that each step asks anew.
func plainMove(t *testing.T, x *grove, coins []api.Coin, from, to int) ([]api.Coin, api.Errno) {
	t.Helper()
	for _, name := range slices.Backward(without(t, x, from, to)) {
		b, _ := tree.Block(x.t, name)
		below, e := Coins(x.k, x.t, b.Parent)
		if e != api.OK {
			return nil, e
		}
		_, us, e := block.Connect(x.k, below, b)
		if e != api.OK {
			return nil, e
		}
		if coins, e = block.Disconnect(x.k, coins, b, us); e != api.OK {
			return nil, e
		}
	}
	for _, name := range without(t, x, to, from) {
		b, _ := tree.Block(x.t, name)
		var e api.Errno
		if coins, _, e = block.Connect(x.k, coins, b); e != api.OK {
			return nil, e
		}
	}
	return coins, api.OK
}

func TestMoveGoesStepByStep(t *testing.T) {
	told := map[api.Errno]int{}
	for seed := range 25 {
		d := &drawer{seed: seed * 2003}
		x, coins := d.grown(t, 15)
		for range 4 {
			i := d.below(len(x.t.Names))
			x.put(t, d.block(x.t.Names[i], x.t.Blocks[i].Height+1, coins[x.t.Names[0]]))
		}
		ends := append([]int{0}, x.t.Names...)
		for range 60 {
			from, to, of := ends[d.below(len(ends))], ends[d.below(len(ends))], ends[d.below(len(ends))]
			if d.below(3) > 0 {
				of = from
			}
			want, e := plainMove(t, x, coins[of], from, to)
			told[e]++
			if got, f := Move(x.k, x.t, coins[of], from, to); !unspent.Same(got, want) || f != e {
				t.Fatalf("from %d to %d, with the coins of %d: %v, %v, want %v, %v", from, to, of, got, f, want, e)
			}
		}
	}
	if told[api.OK] < 200 || told[api.ErrSpent] < 200 || told[api.ErrSum] < 10 || told[api.ErrTwice] < 10 {
		t.Errorf("what is told is too much alike: %v", told)
	}
}

// P8.3

// drawer draws numbers, the same ones of the same seed.
type drawer struct{ seed int }

func (d *drawer) below(n int) int {
	d.seed = (d.seed*7919 + 104729) % 1000003
	return d.seed % n
}

// block draws one on another one that mostly spends coins that are there, and that sometimes takes too much.
func (d *drawer) block(parent, height int, l []api.Coin) api.Block {
	b := on(parent, height, 1+d.below(66))
	b.Nonce = d.below(1000)
	for range d.below(api.MaxTxs) {
		if len(l) == 0 {
			continue
		}
		c := l[d.below(len(l))]
		b.Txs = append(b.Txs, spend(c.P.Tx, c.P.At, 1+d.below(c.O.Coin), 1+d.below(3)))
	}
	return b
}

// grown draws a tree, and tells the coins behind each of its blocks, as they were when it came.
func (d *drawer) grown(t *testing.T, tries int) (*grove, map[int][]api.Coin) {
	t.Helper()
	x, coins, heights := &grove{}, map[int][]api.Coin{0: nil}, map[int]int{}
	for range tries {
		parent := 0
		if len(x.t.Names) > 0 && d.below(8) > 0 {
			// The later ones stand higher, so that rewards become ripe.
			last := min(len(x.t.Names), 3)
			parent = x.t.Names[len(x.t.Names)-1-d.below(last)]
		}
		b := d.block(parent, heights[parent]+1, coins[parent])
		k, name, _, e := block.Names(x.k, b)
		if e != api.OK || slices.Contains(x.t.Names, name) || len(x.t.Names) == api.MaxBlocks {
			continue
		}
		l, _, e := block.Connect(k, coins[parent], b)
		if e != api.OK {
			continue
		}
		x.add(t, b)
		coins[name], heights[name] = l, b.Height
	}
	return x, coins
}

func TestMoveComesToTheCoinsOfAnotherBlock(t *testing.T) {
	blocks, spent, forks := 0, 0, 0
	for seed := range 25 {
		d := &drawer{seed: seed * 1009}
		x, coins := d.grown(t, 40)
		ends := append([]int{0}, x.t.Names...)
		for i, b := range x.t.Blocks {
			blocks++
			spent += len(b.Txs) - 1
			if i > 0 && b.Parent != x.t.Names[i-1] {
				forks++
			}
		}
		for _, end := range ends {
			if got, e := Coins(x.k, x.t, end); !unspent.Same(got, coins[end]) || e != api.OK {
				t.Fatalf("Coins of %d: %v, %v, want %v", end, got, e, coins[end])
			}
		}
		// One after the other, each from what the one ahead has told.
		from, at := 0, []api.Coin(nil)
		for range 60 {
			to := ends[d.below(len(ends))]
			got, e := Move(x.k, x.t, at, from, to)
			if !unspent.Same(got, coins[to]) || e != api.OK {
				t.Fatalf("from %d to %d: %v, %v, want %v", from, to, got, e, coins[to])
			}
			from, at = to, got
		}
	}
	// What is drawn must not be refused for the most part, or nothing is tested.
	if blocks < 300 || spent < 100 || forks < 100 {
		t.Errorf("%d blocks, %d others in them, %d forks", blocks, spent, forks)
	}
}
