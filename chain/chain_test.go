package chain

import (
	"math"
	"reflect"
	"slices"
	"strconv"
	"strings"
	"testing"

	"cairn/api"
	"cairn/block"
	"cairn/clone"
	"cairn/tree"
	"cairn/unspent"
)

func push(l ...int) []api.Op {
	var ops []api.Op
	for _, n := range l {
		ops = append(ops, api.Op{Kind: api.Push, N: n})
	}
	return ops
}

// out is one that anyone may spend.
func out(n int) api.Out { return api.Out{Coin: n, Lock: push(1)} }

func outs(l ...int) []api.Out {
	var all []api.Out
	for _, n := range l {
		all = append(all, out(n))
	}
	return all
}

func paid(height, n int) api.Tx { return api.Tx{Height: height, Outs: outs(n)} }

// spend is a transaction that spends the output of another one, without a key.
func spend(tx, at int, l ...int) api.Tx {
	return api.Tx{Ins: []api.In{{P: api.Point{Tx: tx, At: at}}}, Outs: outs(l...)}
}

// on is a block on another one, with a reward of so much, and others behind it.
func on(parent, height, n int, others ...api.Tx) api.Block {
	return api.Block{Parent: parent, Height: height, Work: 1, Txs: append([]api.Tx{paid(height, n)}, others...)}
}

func kept(tx, at, n, height int) api.Coin {
	return api.Coin{P: api.Point{Tx: tx, At: at}, O: out(n), Height: height}
}

func made(tx, n, height int) api.Coin {
	c := kept(tx, 0, n, height)
	c.Reward = true
	return c
}

// grove is a tree and the book that has the names of what stands in it.
type grove struct {
	k api.Book
	t api.Tree
}

func (g *grove) add(t *testing.T, b api.Block) int {
	t.Helper()
	k, name, _, e := block.Names(g.k, b)
	if e != api.OK {
		t.Fatal(b, e)
	}
	x, e := tree.Add(g.t, name, b)
	if e != api.OK {
		t.Fatal(b, e)
	}
	g.k, g.t = k, x
	return name
}

// The names of some. On a stand b and f, on b stand c and d, on f stands h, on g stands j:
//
//	a - b - c - d
//	  - f - h
//	g - j
const (
	a = 2
	b = 4
	c = 7
	d = 10
	f = 12
	h = 14
	g = 16
	j = 17
)

// some has c and h, which both have one transaction that spends the coin of a, and f and j, which have the same reward.
func some(t *testing.T) *grove {
	t.Helper()
	x := &grove{}
	got := []int{
		x.add(t, on(0, 1, 64)),
		x.add(t, on(a, 2, 10)),
		x.add(t, on(b, 3, 70, spend(1, 0, 58))),
		x.add(t, on(c, 4, 64, spend(6, 0, 50, 8))),
		x.add(t, on(a, 2, 20)),
		x.add(t, on(f, 3, 64, spend(1, 0, 58))),
		x.add(t, on(0, 1, 30)),
		x.add(t, on(g, 2, 20)),
	}
	if !slices.Equal(got, []int{a, b, c, d, f, h, g, j}) {
		t.Fatal("other names:", got)
	}
	return x
}

// someCoins are the coins behind each block of some, and behind nothing.
func someCoins() map[int][]api.Coin {
	return map[int][]api.Coin{
		0: nil,
		a: {made(1, 64, 1)},
		b: {made(1, 64, 1), made(3, 10, 2)},
		c: {made(3, 10, 2), made(5, 70, 3), kept(6, 0, 58, 3)},
		d: {made(3, 10, 2), made(5, 70, 3), made(8, 64, 4), kept(9, 0, 50, 4), kept(9, 1, 8, 4)},
		f: {made(1, 64, 1), made(11, 20, 2)},
		h: {kept(6, 0, 58, 3), made(11, 20, 2), made(13, 64, 3)},
		g: {made(15, 30, 1)},
		j: {made(11, 20, 2), made(15, 30, 1)},
	}
}

// bad are blocks of which Connect has an error, each beside the others on what is there in some.
type bad struct {
	what string
	b    api.Block
	want api.Errno
}

func bads() []bad {
	withKey := spend(1, 0, 58)
	withKey.Ins[0].Key = push(1)
	return []bad{
		{"more than a reward", on(a, 2, 65), api.ErrSum},
		{"more than a reward and a fee", on(b, 3, 71, spend(1, 0, 58)), api.ErrSum},
		{"one that gives more than it spends", on(b, 3, 1, spend(1, 0, 65)), api.ErrSum},
		{"a reward that isn't ripe", on(a, 2, 1, spend(1, 0, 58)), api.ErrLate},
		{"what isn't there any more", on(c, 4, 1, spend(1, 0, 1)), api.ErrSpent},
		{"what is there in another branch alone", on(f, 3, 1, spend(3, 0, 1)), api.ErrSpent},
		{"what nobody gave", on(0, 1, 1, spend(1, 0, 1)), api.ErrSpent},
		{"a key that opens nothing", on(b, 3, 1, withKey), api.ErrKey},
		{"once more what is there", on(b, 3, 1, spend(1, 0, 58), spend(1, 0, 57)), api.ErrSpent},
		{"a text that is too long", tooLong(), api.ErrMany},
	}
}

// tooLong is a block whose transactions each have a text, but which has none itself.
func tooLong() api.Block {
	long := make([]int, api.MaxOps)
	for i := range long {
		long[i] = 1000000
	}
	b := on(a, 2, 1)
	for i := range api.MaxTxs - 1 {
		x := spend(1, i, 1, 1, 1, 1, 1, 1)
		for at := range x.Outs {
			x.Outs[at].Lock = push(long...)
		}
		for at := range api.MaxIns - 1 {
			x.Ins = append(x.Ins, api.In{P: api.Point{Tx: 3, At: at}, Key: push(long...)})
		}
		b.Txs = append(b.Txs, x)
	}
	return b
}

// put adds a block by a name of its own, whether there is a text of it or not.
func (x *grove) put(t *testing.T, b api.Block) int {
	t.Helper()
	if k, _, _, e := block.Names(x.k, b); e == api.OK {
		x.k = k
	}
	name := 100 + len(x.t.Names)
	y, e := tree.Add(x.t, name, b)
	if e != api.OK {
		t.Fatal(b, e)
	}
	x.t = y
	return name
}

func texts(l ...string) api.Book { return api.Book{Texts: l} }

func numbered(count int) api.Book {
	var k api.Book
	for i := range count {
		k.Texts = append(k.Texts, "text "+strconv.Itoa(i))
	}
	return k
}

type wrongBook struct {
	what string
	k    api.Book
	want api.Errno
}

func wrongBooks() []wrongBook {
	return []wrongBook{
		{"a text twice", texts("a", "b", "a"), api.ErrTwice},
		{"too many texts", numbered(api.MaxBook + 1), api.ErrMany},
		{"a text that is too long", texts("a", strings.Repeat("x", api.MaxText+1)), api.ErrMany},
	}
}

type wrongTree struct {
	what string
	t    api.Tree
	want api.Errno
}

func wrongTrees(t *testing.T) []wrongTree {
	uneven, orphan, high, twice, noWork := some(t).t, some(t).t, some(t).t, some(t).t, some(t).t
	uneven.Names = uneven.Names[1:]
	orphan.Blocks[7].Parent = 99
	high.Blocks[7] = on(g, 3, 20)
	twice.Names[7] = a
	noWork.Blocks[7].Work = 0
	return []wrongTree{
		{"a name is missing", uneven, api.ErrForm},
		{"a parent that isn't there", orphan, api.ErrWho},
		{"too high", high, api.ErrForm},
		{"a name twice", twice, api.ErrTwice},
		{"a block that is none", noWork, api.ErrRange},
		{"too many", api.Tree{Names: make([]int, api.MaxBlocks+1), Blocks: make([]api.Block, api.MaxBlocks+1)}, api.ErrMany},
	}
}

// strangers are names that aren't there in some.
func strangers() []int {
	return []int{1, 3, 5, 15, 18, 99, api.MaxBook, api.MaxBook + 1, -1, -a, math.MinInt, math.MaxInt}
}

func noCoins(t *testing.T, what string, k api.Book, x api.Tree, name int, want api.Errno) {
	t.Helper()
	if got, e := Coins(k, x, name); got != nil || e != want {
		t.Errorf("Coins, %s: %v, %v, want %v", what, got, e, want)
	}
}

// P8.1

func TestCoins(t *testing.T) {
	x := some(t)
	for name, want := range someCoins() {
		if got, e := Coins(x.k, x.t, name); !unspent.Same(got, want) || e != api.OK {
			t.Errorf("of %d: %v, %v, want %v", name, got, e, want)
		}
	}
	if got, e := Coins(api.Book{}, api.Tree{}, 0); len(got) != 0 || e != api.OK {
		t.Errorf("of nothing in nothing: %v, %v", got, e)
	}
	if got, e := Coins(numbered(api.MaxBook), x.t, 0); len(got) != 0 || e != api.OK {
		t.Errorf("of nothing, with a full book: %v, %v", got, e)
	}
}

// tall has as many blocks as may be, one on the other, of rewards that are halved as they must be.
func tall(t *testing.T) *grove {
	t.Helper()
	x, last := &grove{}, 0
	for i := range api.MaxBlocks {
		last = x.add(t, on(last, i+1, 64>>(i/api.Halving)))
	}
	return x
}

func TestCoinsOfAsManyAsMayBe(t *testing.T) {
	x := tall(t)
	sum := 0
	for i, name := range x.t.Names {
		sum += 64 >> (i / api.Halving)
		got, e := Coins(x.k, x.t, name)
		if total, _ := unspent.Total(got); len(got) != i+1 || total != sum || e != api.OK {
			t.Errorf("of block %d: %v, %v, want %d of %d", i, got, e, i+1, sum)
		}
	}
}

func TestCoinsTellsTheBookFirst(t *testing.T) {
	for _, k := range wrongBooks() {
		for _, name := range append(strangers(), 0, a, d) {
			noCoins(t, k.what, k.k, some(t).t, name, k.want)
			noCoins(t, k.what+" of no tree", k.k, api.Tree{}, name, k.want)
			for _, x := range wrongTrees(t) {
				noCoins(t, k.what+" is ahead of "+x.what, k.k, x.t, name, k.want)
			}
		}
	}
}

func TestCoinsTellsThePathNext(t *testing.T) {
	x := some(t)
	for _, k := range []api.Book{x.k, {}, numbered(api.MaxBook)} {
		for _, name := range strangers() {
			noCoins(t, "no such name", k, x.t, name, api.ErrWho)
			noCoins(t, "no such name in nothing", k, api.Tree{}, name, api.ErrWho)
		}
		for _, w := range wrongTrees(t) {
			for _, name := range []int{0, a, d, 99} {
				noCoins(t, w.what, k, w.t, name, w.want)
			}
		}
	}
}

func TestCoinsRefusesWhatConnectRefuses(t *testing.T) {
	for _, w := range bads() {
		x := some(t)
		name := x.put(t, w.b)
		noCoins(t, w.what, x.k, x.t, name, w.want)
		height := w.b.Height + 1
		good := x.put(t, on(name, height, 1))
		noCoins(t, "on "+w.what, x.k, x.t, good, w.want)
		worse := x.put(t, on(good, height+1, 65, spend(99, 0, 1)))
		noCoins(t, "the first one's error: "+w.what, x.k, x.t, worse, w.want)
		for other, want := range someCoins() {
			if got, e := Coins(x.k, x.t, other); !unspent.Same(got, want) || e != api.OK {
				t.Errorf("of %d, beside %s: %v, %v, want %v", other, w.what, got, e, want)
			}
		}
	}
}

func TestCoinsWithAnotherBook(t *testing.T) {
	x := some(t)
	// What isn't in the book has the next name, and so two blocks have the same.
	if got, e := Coins(api.Book{}, x.t, g); !unspent.Same(got, []api.Coin{made(1, 30, 1)}) || e != api.OK {
		t.Errorf("one block: %v, %v", got, e)
	}
	if got, e := Coins(texts("x", "y"), x.t, g); !unspent.Same(got, []api.Coin{made(3, 30, 1)}) || e != api.OK {
		t.Errorf("one block behind others: %v, %v", got, e)
	}
	noCoins(t, "two blocks of one name", api.Book{}, x.t, b, api.ErrTwice)
	noCoins(t, "a name is missing", texts(x.k.Texts[:2]...), x.t, c, api.ErrTwice)
	noCoins(t, "no room", numbered(api.MaxBook), x.t, a, api.ErrFull)
	noCoins(t, "no room for the block", numbered(api.MaxBook-1), x.t, a, api.ErrFull)
}

func TestDepth(t *testing.T) {
	x := some(t).t
	for _, w := range []struct{ name, tip, want int }{
		{a, a, 0}, {d, d, 0}, {a, b, 1}, {a, d, 3}, {b, d, 2}, {c, d, 1}, {f, h, 1}, {a, h, 2}, {g, j, 1}, {g, g, 0},
	} {
		if got, e := Depth(x, w.name, w.tip); got != w.want || e != api.OK {
			t.Errorf("of %d on the path of %d: %v, %v, want %v", w.name, w.tip, got, e, w.want)
		}
	}
	long := tall(t).t
	if got, e := Depth(long, long.Names[0], long.Names[api.MaxBlocks-1]); got != api.MaxBlocks-1 || e != api.OK {
		t.Errorf("of the first of as many as may be: %v, %v", got, e)
	}
}

func TestDepthRefuses(t *testing.T) {
	check := func(what string, x api.Tree, name, tip int, want api.Errno) {
		t.Helper()
		if got, e := Depth(x, name, tip); got != 0 || e != want {
			t.Errorf("%s, of %d on the path of %d: %v, %v, want %v", what, name, tip, got, e, want)
		}
	}
	x := some(t).t
	for _, w := range []struct{ name, tip int }{
		{b, a}, {d, a}, {f, d}, {b, h}, {a, j}, {g, d}, {0, a}, {0, d}, {0, 0}, {a, 0}, {d, 0},
	} {
		check("not on it", x, w.name, w.tip, api.ErrWho)
	}
	for _, name := range strangers() {
		check("no such name", x, name, d, api.ErrWho)
		check("no such tip", x, a, name, api.ErrWho)
		check("neither", x, name, name, api.ErrWho)
		check("nothing is there", api.Tree{}, name, 0, api.ErrWho)
	}
	for _, w := range wrongTrees(t) {
		for _, tip := range []int{0, a, d, 99} {
			check(w.what, w.t, a, tip, w.want)
			check(w.what, w.t, 99, tip, w.want)
		}
	}
}

// P2 of the whole document, where lists are handed in and out.

// roomy is some, with spare room behind its lists, in which a marker stands.
func roomy(t *testing.T) *grove {
	t.Helper()
	x := some(t)
	x.k.Texts = append(x.k.Texts, "spare")[:len(x.k.Texts)]
	x.t.Names = append(x.t.Names, 77)[:len(x.t.Names)]
	for i := range x.t.Blocks {
		for at, tx := range x.t.Blocks[i].Txs {
			tx.Outs = append(tx.Outs, out(77))[:len(tx.Outs)]
			x.t.Blocks[i].Txs[at] = tx
		}
		txs := x.t.Blocks[i].Txs
		x.t.Blocks[i].Txs = append(txs, paid(77, 77))[:len(txs)]
	}
	x.t.Blocks = append(x.t.Blocks, on(77, 77, 77))[:len(x.t.Blocks)]
	return x
}

// whole is all of a grove, one place of the spare room behind its lists too.
func whole(x *grove) *grove {
	w := &grove{k: texts(x.k.Texts[:len(x.k.Texts)+1]...)}
	w.t.Names = x.t.Names[:len(x.t.Names)+1]
	for _, b := range x.t.Blocks {
		var txs []api.Tx
		for _, tx := range b.Txs {
			tx.Outs = tx.Outs[:len(tx.Outs)+1]
			txs = append(txs, tx)
		}
		b.Txs = append(txs, b.Txs[:len(b.Txs)+1][len(b.Txs)])
		w.t.Blocks = append(w.t.Blocks, b)
	}
	w.t.Blocks = append(w.t.Blocks, x.t.Blocks[:len(x.t.Blocks)+1][len(x.t.Blocks)])
	return w
}

func TestCallsOnlyRead(t *testing.T) {
	x := roomy(t)
	spare := kept(77, 0, 77, 7)
	for from, coins := range someCoins() {
		room := append(slices.Clone(coins), spare)
		if _, e := Coins(x.k, x.t, from); e != api.OK {
			t.Fatal(from, e)
		}
		for to := range someCoins() {
			Depth(x.t, from, to)
			if _, e := Move(x.k, x.t, room[:len(coins)], from, to); e != api.OK {
				t.Fatal(from, to, e)
			}
		}
		if !unspent.Same(room, append(someCoins()[from], spare)) {
			t.Errorf("the coins of %d are changed: %v", from, room)
		}
	}
	if !reflect.DeepEqual(whole(x), whole(roomy(t))) {
		t.Errorf("the book or the tree is changed: %v", whole(x))
	}
}

// spoil changes every number of coins, locks too.
func spoil(l []api.Coin) {
	l = l[:cap(l)]
	for i := range l {
		lock := l[i].O.Lock[:cap(l[i].O.Lock)]
		for at := range lock {
			lock[at] = api.Op{Kind: 99}
		}
		l[i] = api.Coin{Height: 99}
	}
}

// shared is some, of which all outs share the memory of one lock.
func shared(t *testing.T) *grove {
	t.Helper()
	x, lock := some(t), push(1)
	for i := range x.t.Blocks {
		for _, tx := range x.t.Blocks[i].Txs {
			for at := range tx.Outs {
				tx.Outs[at].Lock = lock
			}
		}
	}
	return x
}

func TestAnswersAreNewMemory(t *testing.T) {
	x := shared(t)
	for from := range someCoins() {
		coins, e := Coins(x.k, x.t, from)
		if e != api.OK {
			t.Fatal(from, e)
		}
		was := clone.Coins(coins)
		for to := range someCoins() {
			got, e := Move(x.k, x.t, coins, from, to)
			if e != api.OK {
				t.Fatal(from, to, e)
			}
			checkApart(t, got)
			spoil(got)
			if !unspent.Same(coins, was) {
				t.Fatalf("Move from %d to %d shares memory with the coins", from, to)
			}
		}
		checkApart(t, coins)
		spoil(coins)
		if !reflect.DeepEqual(x, shared(t)) {
			t.Fatalf("what is told of %d shares memory with the tree", from)
		}
	}
}

// checkApart tells of locks that share memory.
func checkApart(t *testing.T, l []api.Coin) {
	t.Helper()
	for i := range l {
		l[i].O.Lock[0].N = 99
		for other := range l {
			if other != i && l[other].O.Lock[0].N == 99 {
				t.Errorf("the locks of %d and %d are one", i, other)
			}
		}
		l[i].O.Lock[0].N = 1
	}
}
