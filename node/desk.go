package node

import (
	"cairn/api"
	"cairn/block"
	"cairn/book"
	"cairn/clone"
	"cairn/pool"
	"cairn/tree"
)

// desk is a node at work: copies of it and of its book, which are changed, and the coins behind each of its blocks. Where something fails, what is left of the desk is never seen.
type desk struct {
	k      api.Book
	n      api.Node
	behind map[int][]api.Coin // by the name of the block; there are none behind 0
}

// open lays a node on a desk, if it is one.
func open(k api.Book, n api.Node) (*desk, api.Errno) {
	k, _, e := book.All(k, nil)
	if e != api.OK {
		return nil, e
	}
	best, e := tree.Best(n.T)
	if e != api.OK {
		return nil, e
	}
	if best != n.Tip {
		return nil, api.ErrForm
	}
	d := &desk{k: k, n: clone.Node(n), behind: map[int][]api.Coin{}}
	if e := d.checkBlocks(); e != api.OK {
		return nil, e
	}
	if e := d.checkPool(); e != api.OK {
		return nil, e
	}
	return d, api.OK
}

// connect finds the coins behind a block. All that it stands on is connected by then, so that they come of those of its parent: chain.Coins, which begins anew, tells the same.
func (d *desk) connect(name int, b api.Block) (e api.Errno) {
	d.behind[name], _, e = block.Connect(d.k, d.behind[b.Parent], b)
	return e
}

// coins are those behind the tip.
func (d *desk) coins() []api.Coin { return d.behind[d.n.Tip] }

// height is the tip's. Where there is none, the block that is answered is zero, and so is its height.
func (d *desk) height() int {
	b, _ := tree.Block(d.n.T, d.n.Tip)
	return b.Height
}

// take tells the name of a block that is there then.
func (d *desk) take(b api.Block) (name int, e api.Errno) {
	d.k, name, _, e = block.Names(d.k, b)
	if e == api.OK {
		d.n.T, e = tree.Add(d.n.T, name, b)
	}
	if e == api.OK {
		e = d.connect(name, b)
	}
	if e == api.OK {
		d.n.Tip, e = tree.Best(d.n.T)
	}
	if e == api.OK {
		e = d.sweep(d.height() + 1)
	}
	if e != api.OK {
		return 0, e
	}
	return name, api.OK
}

// sweep lets those wait on that can be done at this height, on the coins of the tip.
func (d *desk) sweep(height int) (e api.Errno) {
	// Behind the greatest height there is none at which anything could be done, so all of it waits on.
	if height > api.MaxHeight {
		return api.OK
	}
	d.k, d.n.Pool, _, _, e = pool.Sweep(d.k, d.coins(), d.n.Pool, height)
	return e
}

// offer lets t wait behind the others.
func (d *desk) offer(t api.Tx) (e api.Errno) {
	d.k, d.n.Pool, e = pool.Accept(d.k, d.coins(), d.n.Pool, t, d.height()+1)
	return e
}

// mine tells the block that is made and taken.
func (d *desk) mine(work, nonce int, to []api.Op) (api.Block, api.Errno) {
	b, e := pool.Make(d.k, d.coins(), d.n.Pool, d.n.Tip, d.height(), work, nonce, to)
	if e == api.OK {
		_, e = d.take(b)
	}
	if e != api.OK {
		return api.Block{}, e
	}
	return b, api.OK
}
