package tree

import (
	"math"
	"reflect"
	"slices"
	"testing"

	"cairn/api"
	"cairn/block"
	"cairn/clone"
)

// plain is a block of a reward alone, whose coin tells it from others.
func plain(parent, height, work, coin int) api.Block {
	return api.Block{Parent: parent, Height: height, Work: work, Txs: []api.Tx{{Height: height, Outs: []api.Out{{Coin: coin}}}}}
}

// named is a block and its name.
type named struct {
	name int
	b    api.Block
}

func treeOf(l ...named) api.Tree {
	var t api.Tree
	for _, x := range l {
		t.Names = append(t.Names, x.name)
		t.Blocks = append(t.Blocks, x.b)
	}
	return t
}

// some is a tree of two that stand on nothing. On 7 stand 9 and 4, on 9 stands 2, on 3 stands 8:
//
//	7 (1) - 9 (3) - 2 (1)
//	      - 4 (2)
//	3 (4) - 8 (1)
func some() api.Tree {
	return treeOf(
		named{7, plain(0, 1, 1, 10)}, named{9, plain(7, 2, 3, 20)}, named{3, plain(0, 1, 4, 30)},
		named{4, plain(7, 2, 2, 40)}, named{2, plain(9, 3, 1, 50)}, named{8, plain(3, 2, 1, 60)},
	)
}

// line is a tree of so many that stand one on the other, by names from 1 on.
func line(count int) api.Tree {
	var t api.Tree
	for i := range count {
		t.Names = append(t.Names, i+1)
		t.Blocks = append(t.Blocks, plain(i, i+1, 1, 5))
	}
	return t
}

// bush is a tree of so many that stand on nothing, by names from 1 on.
func bush(count int) api.Tree {
	var t api.Tree
	for i := range count {
		t.Names = append(t.Names, i+1)
		t.Blocks = append(t.Blocks, plain(0, 1, 1, 5))
	}
	return t
}

func sameTree(a, b api.Tree) bool {
	return slices.Equal(a.Names, b.Names) && slices.EqualFunc(a.Blocks, b.Blocks, block.Same)
}

// noWork is a block that is none.
func noWork(parent, height int) api.Block { return plain(parent, height, 0, 5) }

// wrongBlock has a lock of too many orders.
func wrongBlock(parent, height int) api.Block {
	b := plain(parent, height, 1, 5)
	b.Txs[0].Outs[0].Lock = make([]api.Op, api.MaxOps+1)
	return b
}

// fullBlock gives more than there may be.
func fullBlock(parent, height int) api.Block {
	b := plain(parent, height, 1, api.MaxCoin)
	b.Txs[0].Outs = append(b.Txs[0].Outs, api.Out{Coin: 1})
	return b
}

type wrongNext struct {
	what string
	next named
	want api.Errno
}

// wrongNexts are blocks and names that may not stand behind some, and what is wrong with each.
func wrongNexts() []wrongNext {
	return []wrongNext{
		{"no name", named{0, plain(0, 1, 1, 5)}, api.ErrRange},
		{"name below", named{-1, plain(7, 2, 1, 5)}, api.ErrRange},
		{"name far below", named{math.MinInt, plain(7, 2, 1, 5)}, api.ErrRange},
		{"name above", named{api.MaxBook + 1, plain(7, 2, 1, 5)}, api.ErrRange},
		{"name far above", named{math.MaxInt, plain(7, 2, 1, 5)}, api.ErrRange},
		{"no block", named{10, api.Block{}}, api.ErrRange},
		{"no work", named{10, noWork(7, 2)}, api.ErrRange},
		{"parent below", named{10, plain(-1, 1, 1, 5)}, api.ErrRange},
		{"parent above", named{10, plain(api.MaxBook+1, 2, 1, 5)}, api.ErrRange},
		{"no height", named{10, plain(0, 0, 1, 5)}, api.ErrRange},
		{"height far above", named{10, plain(0, math.MaxInt, 1, 5)}, api.ErrRange},
		{"no transactions", named{10, api.Block{Height: 1, Work: 1}}, api.ErrForm},
		{"a wrong lock", named{10, wrongBlock(7, 2)}, api.ErrMany},
		{"too much", named{10, fullBlock(7, 2)}, api.ErrFull},
		{"a reward of another height", named{10, api.Block{Height: 1, Work: 1, Txs: plain(0, 2, 1, 5).Txs}}, api.ErrForm},
		{"a name of the first", named{7, plain(0, 1, 1, 5)}, api.ErrTwice},
		{"a name of the last", named{8, plain(7, 2, 1, 5)}, api.ErrTwice},
		{"the same once more", named{7, plain(0, 1, 1, 10)}, api.ErrTwice},
		{"on one that isn't there", named{10, plain(5, 2, 1, 5)}, api.ErrWho},
		{"on one that isn't there, of the height 1", named{10, plain(5, 1, 1, 5)}, api.ErrWho},
		{"on the greatest name, that isn't there", named{10, plain(api.MaxBook, 1, 1, 5)}, api.ErrWho},
		{"on itself", named{10, plain(10, 2, 1, 5)}, api.ErrWho},
		{"on itself, of the height 1", named{10, plain(10, 1, 1, 5)}, api.ErrWho},
		{"on nothing, too high", named{10, plain(0, 2, 1, 5)}, api.ErrForm},
		{"on nothing, as high as may be", named{10, plain(0, api.MaxHeight, 1, 5)}, api.ErrForm},
		{"as high as its parent", named{10, plain(7, 1, 1, 5)}, api.ErrForm},
		{"too high by one", named{10, plain(7, 3, 1, 5)}, api.ErrForm},
		{"too low by one", named{10, plain(2, 3, 1, 5)}, api.ErrForm},
		{"of the height 1, on a higher one", named{10, plain(2, 1, 1, 5)}, api.ErrForm},
		{"the name's range is ahead of the block", named{0, fullBlock(5, 9)}, api.ErrRange},
		{"the block is ahead of twice", named{7, fullBlock(7, 2)}, api.ErrFull},
		{"the block is ahead of who", named{10, fullBlock(5, 2)}, api.ErrFull},
		{"the block is ahead of its height", named{10, fullBlock(7, 9)}, api.ErrFull},
		{"twice is ahead of who", named{7, plain(5, 2, 1, 5)}, api.ErrTwice},
		{"twice is ahead of itself", named{7, plain(7, 2, 1, 5)}, api.ErrTwice},
		{"twice is ahead of its height", named{7, plain(9, 9, 1, 5)}, api.ErrTwice},
		{"who is ahead of its height", named{10, plain(5, 9, 1, 5)}, api.ErrWho},
	}
}

type wrongTree struct {
	what string
	t    api.Tree
	want api.Errno
}

// wrong are trees that are none, and what is wrong with each.
func wrong() []wrongTree {
	long, uneven := bush(api.MaxBlocks+1), some()
	uneven.Names = append(uneven.Names, 10)
	high := line(api.MaxBlocks)
	high.Blocks[api.MaxBlocks-1] = plain(api.MaxBlocks-1, api.MaxBlocks+1, 1, 5)
	l := []wrongTree{
		{"a name too much", uneven, api.ErrForm},
		{"names without blocks", api.Tree{Names: []int{1}}, api.ErrForm},
		{"blocks without names", api.Tree{Blocks: []api.Block{plain(0, 1, 1, 5)}}, api.ErrForm},
		{"uneven is ahead of many", api.Tree{Names: long.Names, Blocks: long.Blocks[1:]}, api.ErrForm},
		{"uneven is ahead of what is wrong with one", api.Tree{Names: []int{0, 1}, Blocks: []api.Block{{}}}, api.ErrForm},
		{"one too many", long, api.ErrMany},
		{"far too many, all of them wrong", api.Tree{Names: make([]int, 1000), Blocks: make([]api.Block, 1000)}, api.ErrMany},
		{"a parent that stands behind", treeOf(named{2, plain(1, 2, 1, 5)}, named{1, plain(0, 1, 1, 5)}), api.ErrWho},
		{"two on each other", treeOf(named{1, plain(2, 2, 1, 5)}, named{2, plain(1, 2, 1, 5)}), api.ErrWho},
		{"one on itself", treeOf(named{1, plain(1, 1, 1, 5)}), api.ErrWho},
		{"the last one too high", high, api.ErrForm},
		{"the first one's error: range", treeOf(named{0, plain(0, 1, 1, 5)}, named{1, fullBlock(0, 1)}), api.ErrRange},
		{"the first one's error: its block", treeOf(named{1, fullBlock(0, 1)}, named{1, plain(0, 1, 1, 5)}, named{0, api.Block{}}), api.ErrFull},
		{"the first one's error: twice", treeOf(named{1, plain(0, 1, 1, 5)}, named{1, plain(0, 1, 1, 5)}, named{2, plain(9, 1, 1, 5)}), api.ErrTwice},
		{"the first one's error: who", treeOf(named{1, plain(9, 1, 1, 5)}, named{1, plain(0, 1, 1, 5)}), api.ErrWho},
		{"the first one's error: height", treeOf(named{1, plain(0, 2, 1, 5)}, named{0, plain(0, 1, 1, 5)}), api.ErrForm},
	}
	for _, c := range wrongNexts() {
		x := some()
		l = append(l, wrongTree{"behind others: " + c.what, api.Tree{Names: append(x.Names, c.next.name), Blocks: append(x.Blocks, c.next.b)}, c.want})
	}
	return l
}

// P7.1

func TestCheckTakesTrees(t *testing.T) {
	for _, c := range []struct {
		what string
		t    api.Tree
	}{
		{"nothing", api.Tree{}},
		{"empty lists", api.Tree{Names: []int{}, Blocks: []api.Block{}}},
		{"one list empty, the other one nil", api.Tree{Names: []int{}}},
		{"one", treeOf(named{1, plain(0, 1, 1, 5)})},
		{"the greatest name, the most work", treeOf(named{api.MaxBook, plain(0, 1, api.MaxWork, 5)})},
		{"on the greatest name", treeOf(named{api.MaxBook, plain(0, 1, 1, 5)}, named{1, plain(api.MaxBook, 2, 1, 5)})},
		{"some, names in any order", some()},
		{"as many as may be, in a line", line(api.MaxBlocks)},
		{"as many as may be, side by side", bush(api.MaxBlocks)},
		{"the same block by two names", treeOf(named{1, plain(0, 1, 1, 5)}, named{2, plain(0, 1, 1, 5)})},
	} {
		if e := Check(c.t); e != api.OK {
			t.Errorf("%s: %v", c.what, e)
		}
	}
}

func TestCheckRefuses(t *testing.T) {
	for _, c := range wrong() {
		if e := Check(c.t); e != c.want {
			t.Errorf("%s: %v, want %v", c.what, e, c.want)
		}
	}
}

func TestTheOthersTellCheckFirst(t *testing.T) {
	for _, c := range wrong() {
		// 10 may be added to some, 7 is there, 5 isn't, the others are no names.
		for _, name := range []int{10, 7, 5, 0, -1, math.MaxInt} {
			for _, b := range []api.Block{plain(0, 1, 1, 5), {}, fullBlock(5, 9)} {
				if x, e := Add(c.t, name, b); !reflect.DeepEqual(x, api.Tree{}) || e != c.want {
					t.Errorf("Add, %s: %v, %v, want %v", c.what, x, e, c.want)
				}
			}
			if b, e := Block(c.t, name); !reflect.DeepEqual(b, api.Block{}) || e != c.want {
				t.Errorf("Block, %s: %v, %v, want %v", c.what, b, e, c.want)
			}
			if l, e := Path(c.t, name); l != nil || e != c.want {
				t.Errorf("Path, %s: %v, %v, want %v", c.what, l, e, c.want)
			}
			if n, e := Work(c.t, name); n != 0 || e != c.want {
				t.Errorf("Work, %s: %v, %v, want %v", c.what, n, e, c.want)
			}
			if n, e := Fork(c.t, name, 7); n != 0 || e != c.want {
				t.Errorf("Fork, %s: %v, %v, want %v", c.what, n, e, c.want)
			}
		}
		if n, e := Best(c.t); n != 0 || e != c.want {
			t.Errorf("Best, %s: %v, %v, want %v", c.what, n, e, c.want)
		}
	}
}

// P7.2

func TestAdd(t *testing.T) {
	for _, c := range []struct {
		what string
		t    api.Tree
		next named
	}{
		{"to nothing", api.Tree{}, named{1, plain(0, 1, 1, 5)}},
		{"to empty lists", api.Tree{Names: []int{}, Blocks: []api.Block{}}, named{api.MaxBook, plain(0, 1, 1, 5)}},
		{"on the last", some(), named{10, plain(8, 3, 1, 5)}},
		{"on the first", some(), named{10, plain(7, 2, 1, 5)}},
		{"on the highest, by a name below all", some(), named{1, plain(2, 4, api.MaxWork, 5)}},
		{"on nothing", some(), named{10, plain(0, 1, 1, 5)}},
		{"a block that is there, by another name", some(), named{10, plain(9, 3, 1, 50)}},
		{"the last that there is room for, in a line", line(api.MaxBlocks - 1), named{api.MaxBlocks, plain(api.MaxBlocks-1, api.MaxBlocks, 1, 5)}},
		{"the last that there is room for, side by side", bush(api.MaxBlocks - 1), named{api.MaxBook, plain(0, 1, 1, 5)}},
	} {
		want := api.Tree{Names: append(slices.Clone(c.t.Names), c.next.name), Blocks: append(slices.Clone(c.t.Blocks), c.next.b)}
		if got, e := Add(c.t, c.next.name, c.next.b); !sameTree(got, want) || e != api.OK {
			t.Errorf("%s: %v, %v, want %v", c.what, got, e, want)
		}
	}
}

func TestAddRefuses(t *testing.T) {
	for _, c := range wrongNexts() {
		if x, e := Add(some(), c.next.name, c.next.b); !reflect.DeepEqual(x, api.Tree{}) || e != c.want {
			t.Errorf("%s: %v, %v, want %v", c.what, x, e, c.want)
		}
	}
}

func TestAddToAFullTree(t *testing.T) {
	for _, c := range []struct {
		what string
		next named
		want api.Errno
	}{
		{"on nothing", named{100, plain(0, 1, 1, 5)}, api.ErrFull},
		{"on the last", named{100, plain(api.MaxBlocks, api.MaxBlocks+1, 1, 5)}, api.ErrFull},
		{"no name is ahead", named{0, plain(0, 1, 1, 5)}, api.ErrRange},
		{"a wrong block is ahead", named{100, wrongBlock(0, 1)}, api.ErrMany},
		{"twice is ahead", named{api.MaxBlocks, plain(0, 1, 1, 5)}, api.ErrTwice},
		{"who is ahead", named{100, plain(99, 1, 1, 5)}, api.ErrWho},
		{"its height is ahead", named{100, plain(0, 2, 1, 5)}, api.ErrForm},
	} {
		if x, e := Add(line(api.MaxBlocks), c.next.name, c.next.b); !reflect.DeepEqual(x, api.Tree{}) || e != c.want {
			t.Errorf("%s: %v, %v, want %v", c.what, x, e, c.want)
		}
	}
}

func TestBlock(t *testing.T) {
	x := some()
	for i, name := range x.Names {
		if b, e := Block(x, name); !block.Same(b, x.Blocks[i]) || e != api.OK {
			t.Errorf("%d: %v, %v, want %v", name, b, e, x.Blocks[i])
		}
	}
	for _, name := range []int{0, 1, 5, 6, 10, -7, api.MaxBook, api.MaxBook + 1, math.MinInt, math.MaxInt} {
		for _, x := range []api.Tree{x, {}} {
			if b, e := Block(x, name); !reflect.DeepEqual(b, api.Block{}) || e != api.ErrWho {
				t.Errorf("%d: %v, %v", name, b, e)
			}
		}
	}
}

// P2 of the whole document, where lists are handed in and out.

func ops(l ...int) []api.Op {
	var orders []api.Op
	for _, n := range l {
		orders = append(orders, api.Op{Kind: api.Push, N: n})
	}
	return orders
}

// rich is a block with keys and locks, and with spare room behind each list, in which a marker stands.
func rich(parent, height int) api.Block {
	outs := []api.Out{{Coin: 1, Lock: ops(1, 77)[:1]}, {Coin: 2, Lock: ops(2, 77)[:1]}, {Coin: 77}}
	ins := []api.In{{P: api.Point{Tx: 5}, Key: ops(3, 77)[:1]}, {P: api.Point{Tx: 77}}}
	txs := []api.Tx{{Height: height, Outs: slices.Clone(outs)[:1]}, {Ins: ins[:1], Outs: outs[:2]}, {Height: 77}}
	return api.Block{Parent: parent, Height: height, Work: 1, Txs: txs[:2]}
}

func roomy() api.Tree {
	return api.Tree{Names: []int{5, 6, 77}[:2], Blocks: []api.Block{rich(0, 1), rich(5, 2), {Parent: 77}}[:2]}
}

// wholeTx is all of a transaction, the spare room behind its lists too.
func wholeTx(x api.Tx) api.Tx {
	w := api.Tx{Height: x.Height}
	for _, in := range x.Ins[:cap(x.Ins)] {
		w.Ins = append(w.Ins, api.In{P: in.P, Key: in.Key[:cap(in.Key)]})
	}
	for _, o := range x.Outs[:cap(x.Outs)] {
		w.Outs = append(w.Outs, api.Out{Coin: o.Coin, Lock: o.Lock[:cap(o.Lock)]})
	}
	return w
}

func whole(x api.Tree) api.Tree {
	w := api.Tree{Names: x.Names[:cap(x.Names)]}
	for _, b := range x.Blocks[:cap(x.Blocks)] {
		var txs []api.Tx
		for _, t := range b.Txs[:cap(b.Txs)] {
			txs = append(txs, wholeTx(t))
		}
		b.Txs = txs
		w.Blocks = append(w.Blocks, b)
	}
	return w
}

func TestCallsOnlyRead(t *testing.T) {
	x, b := roomy(), rich(6, 3)
	Check(x)
	if _, e := Add(x, 8, b); e != api.OK {
		t.Fatal(e)
	}
	Add(x, 5, b)
	Add(x, 8, rich(9, 3))
	Block(x, 5)
	Path(x, 6)
	Work(x, 6)
	Best(x)
	Fork(x, 5, 6)
	if !reflect.DeepEqual(whole(x), whole(roomy())) {
		t.Errorf("the tree is changed: %v", whole(x))
	}
	if !reflect.DeepEqual(whole(treeOf(named{8, b})), whole(treeOf(named{8, rich(6, 3)}))) {
		t.Errorf("the block is changed: %v", b)
	}
}

// spoil changes all memory of blocks, spare room too.
func spoil(l []api.Block) {
	l = l[:cap(l)]
	for _, b := range whole(api.Tree{Blocks: l}).Blocks {
		for _, x := range b.Txs {
			for _, in := range x.Ins {
				clear(in.Key)
			}
			for _, o := range x.Outs {
				clear(o.Lock)
			}
		}
	}
	for i := range l {
		for _, x := range l[i].Txs {
			clear(x.Ins[:cap(x.Ins)])
			clear(x.Outs[:cap(x.Outs)])
		}
		clear(l[i].Txs[:cap(l[i].Txs)])
	}
	clear(l)
}

func TestCallsAnswerNewMemory(t *testing.T) {
	x, b := roomy(), rich(6, 3)
	added, _ := Add(x, 8, b)
	clear(added.Names[:cap(added.Names)])
	spoil(added.Blocks)
	got, _ := Block(x, 6)
	spoil([]api.Block{got})
	path, _ := Path(x, 6)
	clear(path[:cap(path)])
	if !reflect.DeepEqual(whole(x), whole(roomy())) {
		t.Errorf("an answer shares memory with the tree: %v", whole(x))
	}
	if !reflect.DeepEqual(whole(treeOf(named{8, b})), whole(treeOf(named{8, rich(6, 3)}))) {
		t.Errorf("an answer shares memory with the block: %v", b)
	}
}

func TestListsOfAnAnswerShareNothing(t *testing.T) {
	one := rich(0, 1)
	x := treeOf(named{5, one}, named{6, one})
	added, _ := Add(x, 8, one)
	want := clone.Tree(added)
	spoil(added.Blocks[2:])
	if !sameTree(first(added, 2), first(want, 2)) {
		t.Errorf("the lists of an answer share memory: %v", added)
	}
	spoil(added.Blocks[:1:1])
	if !block.Same(added.Blocks[1], want.Blocks[1]) {
		t.Errorf("the lists of an answer share memory: %v", added)
	}
}
