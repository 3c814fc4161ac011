package clone

import (
	"reflect"
	"testing"

	"cairn/api"
)

func ops(l ...int) []api.Op {
	var orders []api.Op
	for _, n := range l {
		orders = append(orders, api.Op{Kind: api.Push, N: n})
	}
	return orders
}

// roomyTx is a transaction with spare room behind each list, in which a marker stands.
func roomyTx() api.Tx {
	ins := []api.In{{P: api.Point{Tx: 1}, Key: ops(1, 2, 77)[:2]}, {P: api.Point{Tx: 2, At: 1}, Key: ops(77)[:0]}, {P: api.Point{Tx: 77}}}
	outs := []api.Out{{Coin: 3, Lock: ops(4, 77)[:1]}, {Coin: 5}, {Coin: 77}}
	return api.Tx{Height: 6, Ins: ins[:2], Outs: outs[:2]}
}

func roomyBlock() api.Block {
	txs := []api.Tx{roomyTx(), {}, roomyTx(), {Height: 77}}
	return api.Block{Parent: 1, Height: 2, Work: 3, Nonce: 4, Txs: txs[:3]}
}

func roomyTree() api.Tree {
	return api.Tree{Names: []int{1, 2, 3, 77}[:3], Blocks: []api.Block{roomyBlock(), {}, roomyBlock(), {Parent: 77}}[:3]}
}

func roomyNode() api.Node {
	return api.Node{T: roomyTree(), Pool: []api.Tx{roomyTx(), {}, roomyTx(), {Height: 77}}[:3], Tip: 5}
}

func roomyMessage() api.Message {
	return api.Message{Kind: 1, From: 2, To: 3, Name: 4, B: roomyBlock(), T: roomyTx()}
}

func roomyWorld() api.World {
	return api.World{
		Book:  api.Book{Texts: []string{"a", "b", "spare"}[:2]},
		Nodes: []api.Node{roomyNode(), {}, roomyNode(), {Tip: 77}}[:3],
		Net:   []api.Message{roomyMessage(), {}, roomyMessage(), {Kind: 77}}[:3],
	}
}

func roomyCoins() []api.Coin {
	l := []api.Coin{{P: api.Point{Tx: 1, At: 2}, O: api.Out{Coin: 3, Lock: ops(4, 77)[:1]}, Height: 5, Reward: true}, {Height: 6}, {Height: 77}}
	return l[:2]
}

// wholeCoins are all of a list, the spare room behind its lists too.
func wholeCoins(l []api.Coin) []api.Coin {
	var w []api.Coin
	for _, c := range l[:cap(l)] {
		c.O.Lock = c.O.Lock[:cap(c.O.Lock)]
		w = append(w, c)
	}
	return w
}

// wholeTx is all of a transaction, the spare room behind its lists too.
func wholeTx(t api.Tx) api.Tx {
	t.Ins, t.Outs = t.Ins[:cap(t.Ins)], t.Outs[:cap(t.Outs)]
	w := api.Tx{Height: t.Height}
	for _, in := range t.Ins {
		w.Ins = append(w.Ins, api.In{P: in.P, Key: in.Key[:cap(in.Key)]})
	}
	for _, o := range t.Outs {
		w.Outs = append(w.Outs, api.Out{Coin: o.Coin, Lock: o.Lock[:cap(o.Lock)]})
	}
	return w
}

func wholeTxs(l []api.Tx) []api.Tx {
	var w []api.Tx
	for _, t := range l[:cap(l)] {
		w = append(w, wholeTx(t))
	}
	return w
}

func wholeBlock(b api.Block) api.Block {
	b.Txs = wholeTxs(b.Txs)
	return b
}

func wholeTree(t api.Tree) api.Tree {
	var blocks []api.Block
	for _, b := range t.Blocks[:cap(t.Blocks)] {
		blocks = append(blocks, wholeBlock(b))
	}
	return api.Tree{Names: t.Names[:cap(t.Names)], Blocks: blocks}
}

func wholeNode(n api.Node) api.Node {
	return api.Node{T: wholeTree(n.T), Pool: wholeTxs(n.Pool), Tip: n.Tip}
}

func wholeMessage(m api.Message) api.Message {
	m.B, m.T = wholeBlock(m.B), wholeTx(m.T)
	return m
}

func wholeWorld(w api.World) api.World {
	whole := api.World{Book: api.Book{Texts: w.Book.Texts[:cap(w.Book.Texts)]}}
	for _, n := range w.Nodes[:cap(w.Nodes)] {
		whole.Nodes = append(whole.Nodes, wholeNode(n))
	}
	for _, m := range w.Net[:cap(w.Net)] {
		whole.Net = append(whole.Net, wholeMessage(m))
	}
	return whole
}

// spoilCoins changes all memory that a list of coins has.
func spoilCoins(l []api.Coin) {
	l = l[:cap(l)]
	for i := range l {
		spoilOps(l[i].O.Lock)
		l[i] = api.Coin{Height: 99}
	}
}

// spoilTx changes all memory that a transaction has.
func spoilTx(t api.Tx) {
	ins, outs := t.Ins[:cap(t.Ins)], t.Outs[:cap(t.Outs)]
	for i := range ins {
		spoilOps(ins[i].Key)
		ins[i] = api.In{P: api.Point{Tx: 99}}
	}
	for i := range outs {
		spoilOps(outs[i].Lock)
		outs[i] = api.Out{Coin: 99}
	}
}

func spoilOps(l []api.Op) {
	l = l[:cap(l)]
	for i := range l {
		l[i] = api.Op{Kind: 99}
	}
}

func spoilTxs(l []api.Tx) {
	l = l[:cap(l)]
	for i := range l {
		spoilTx(l[i])
		l[i] = api.Tx{Height: 99}
	}
}

func spoilBlock(b api.Block) { spoilTxs(b.Txs) }

func spoilTree(t api.Tree) {
	names, blocks := t.Names[:cap(t.Names)], t.Blocks[:cap(t.Blocks)]
	for i := range names {
		names[i] = 99
	}
	for i := range blocks {
		spoilBlock(blocks[i])
		blocks[i] = api.Block{Parent: 99}
	}
}

func spoilMessage(m api.Message) {
	spoilBlock(m.B)
	spoilTx(m.T)
}

func spoilWorld(w api.World) {
	texts, nodes, net := w.Book.Texts[:cap(w.Book.Texts)], w.Nodes[:cap(w.Nodes)], w.Net[:cap(w.Net)]
	for i := range texts {
		texts[i] = "changed"
	}
	for i := range nodes {
		spoilTree(nodes[i].T)
		spoilTxs(nodes[i].Pool)
		nodes[i] = api.Node{Tip: 99}
	}
	for i := range net {
		spoilMessage(net[i])
		net[i] = api.Message{Kind: 99}
	}
}

func TestCopiesOfWorldsAreAlike(t *testing.T) {
	for _, m := range []api.Message{{}, roomyMessage(), {Kind: -1, B: api.Block{Txs: []api.Tx{{}}}}} {
		if got := Message(m); !reflect.DeepEqual(got, m) {
			t.Errorf("%v, want %v", got, m)
		}
	}
	for _, w := range []api.World{{}, roomyWorld(), {Book: api.Book{Texts: []string{}}, Nodes: []api.Node{}, Net: []api.Message{}}} {
		if got := World(w); !reflect.DeepEqual(got, w) {
			t.Errorf("%v, want %v", got, w)
		}
	}
}

func TestCopiesOfWorldsShareNothing(t *testing.T) {
	m, w := roomyMessage(), roomyWorld()
	spoilMessage(Message(m))
	if !reflect.DeepEqual(wholeMessage(m), wholeMessage(roomyMessage())) {
		t.Errorf("a message shares memory: %v", wholeMessage(m))
	}
	spoilWorld(World(w))
	if !reflect.DeepEqual(wholeWorld(w), wholeWorld(roomyWorld())) {
		t.Errorf("a world shares memory: %v", wholeWorld(w))
	}
	// Where lists that are copied share memory, those of the copy don't.
	out := World(api.World{Net: []api.Message{m, m}})
	spoilMessage(out.Net[0])
	if !reflect.DeepEqual(out.Net[1], roomyMessage()) {
		t.Errorf("the lists of a copy share memory: %v", out.Net)
	}
	n := roomyNode()
	out = World(api.World{Nodes: []api.Node{n, n}})
	spoilTree(out.Nodes[0].T)
	spoilTxs(out.Nodes[0].Pool)
	if !reflect.DeepEqual(out.Nodes[1], roomyNode()) {
		t.Errorf("the lists of a copy share memory: %v", out.Nodes)
	}
}

func TestCopiesAreAlike(t *testing.T) {
	for _, l := range [][]api.Coin{nil, {}, roomyCoins(), {{P: api.Point{At: -1}}}} {
		if got := Coins(l); !reflect.DeepEqual(got, l) {
			t.Errorf("%v, want %v", got, l)
		}
		for _, c := range l {
			if got := Coin(c); !reflect.DeepEqual(got, c) {
				t.Errorf("%v, want %v", got, c)
			}
		}
	}
	for _, x := range []api.Tx{{}, roomyTx(), {Height: -1, Outs: []api.Out{{}}}} {
		if got := Tx(x); !reflect.DeepEqual(got, x) {
			t.Errorf("%v, want %v", got, x)
		}
	}
	for _, b := range []api.Block{{}, roomyBlock(), {Parent: -1, Txs: []api.Tx{{}, {}}}} {
		if got := Block(b); !reflect.DeepEqual(got, b) {
			t.Errorf("%v, want %v", got, b)
		}
	}
	for _, x := range []api.Tree{{}, roomyTree(), {Names: []int{-1}}, {Blocks: []api.Block{{}}}} {
		if got := Tree(x); !reflect.DeepEqual(got, x) {
			t.Errorf("%v, want %v", got, x)
		}
	}
	for _, l := range [][]api.Tx{nil, {}, roomyNode().Pool, {{Height: -1}}} {
		if got := Txs(l); !reflect.DeepEqual(got, l) {
			t.Errorf("%v, want %v", got, l)
		}
	}
	for _, n := range []api.Node{{}, roomyNode(), {Tip: -1}, {T: api.Tree{Names: []int{-1}}, Pool: []api.Tx{{}}}} {
		if got := Node(n); !reflect.DeepEqual(got, n) {
			t.Errorf("%v, want %v", got, n)
		}
	}
}

func TestCopiesShareNothing(t *testing.T) {
	l, c, x, b, tree := roomyCoins(), roomyCoins(), roomyTx(), roomyBlock(), roomyTree()
	spoilCoins(Coins(l))
	spoilOps(Coin(c[0]).O.Lock)
	spoilTx(Tx(x))
	spoilBlock(Block(b))
	spoilTree(Tree(tree))
	n := roomyNode()
	spoilTxs(Txs(n.Pool))
	other := Node(n)
	spoilTree(other.T)
	spoilTxs(other.Pool)
	if !reflect.DeepEqual(wholeNode(n), wholeNode(roomyNode())) {
		t.Errorf("a node shares memory: %v", wholeNode(n))
	}
	if want := wholeCoins(roomyCoins()); !reflect.DeepEqual(wholeCoins(l), want) || !reflect.DeepEqual(wholeCoins(c), want) {
		t.Errorf("coins share memory: %v, %v", wholeCoins(l), wholeCoins(c))
	}
	if !reflect.DeepEqual(wholeTx(x), wholeTx(roomyTx())) {
		t.Errorf("a transaction shares memory: %v", wholeTx(x))
	}
	if !reflect.DeepEqual(wholeBlock(b), wholeBlock(roomyBlock())) {
		t.Errorf("a block shares memory: %v", wholeBlock(b))
	}
	if !reflect.DeepEqual(wholeTree(tree), wholeTree(roomyTree())) {
		t.Errorf("a tree shares memory: %v", wholeTree(tree))
	}
}

func TestListsOfACopyShareNothing(t *testing.T) {
	coin := roomyCoins()[0]
	l := Coins([]api.Coin{coin, coin})
	spoilOps(l[0].O.Lock)
	if want := roomyCoins()[0]; !reflect.DeepEqual(l[1], want) {
		t.Errorf("the lists of a copy share memory: %v", l)
	}
	shared := roomyTx()
	tree := Tree(api.Tree{Names: []int{1, 2}, Blocks: []api.Block{{Txs: []api.Tx{shared, shared}}, {Txs: []api.Tx{shared}}}})
	spoilTx(tree.Blocks[0].Txs[0])
	if want := roomyTx(); !reflect.DeepEqual(tree.Blocks[0].Txs[1], want) || !reflect.DeepEqual(tree.Blocks[1].Txs[0], want) {
		t.Errorf("the lists of a copy share memory: %v", tree)
	}
	n := Node(api.Node{T: api.Tree{Blocks: []api.Block{{Txs: []api.Tx{shared}}}}, Pool: []api.Tx{shared, shared}})
	spoilTx(n.Pool[0])
	if want := roomyTx(); !reflect.DeepEqual(n.Pool[1], want) || !reflect.DeepEqual(n.T.Blocks[0].Txs[0], want) {
		t.Errorf("the lists of a copy share memory: %v", n)
	}
}
