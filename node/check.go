package node

import (
	"slices"

	"cairn/api"
	"cairn/block"
	"cairn/pool"
	"cairn/tx"
)

// checkBlocks tells whether the book knows all blocks, and whether they can be done, one after the other.
func (d *desk) checkBlocks() api.Errno {
	for i, name := range d.n.T.Names {
		b := d.n.T.Blocks[i]
		if !d.knowsBlock(name, b) {
			return api.ErrWho
		}
		if e := d.connect(name, b); e != api.OK {
			return e
		}
	}
	return api.OK
}

// checkPool tells whether the book knows all that waits, and whether it can be done, one behind the other.
func (d *desk) checkPool() api.Errno {
	if len(d.n.Pool) == 0 {
		return api.OK
	}
	if !d.knowsAll(d.n.Pool) {
		return api.ErrWho
	}
	_, stay, _, _, e := pool.Sweep(d.k, d.coins(), d.n.Pool, d.height()+1)
	if e == api.OK && len(stay) < len(d.n.Pool) {
		e = api.ErrSpent
	}
	return e
}

// knowsBlock: by this name the book has the block, and by any it has what is in it.
func (d *desk) knowsBlock(name int, b api.Block) bool {
	text, e := block.Print(b)
	return e == api.OK && d.nameOf(text) == name && d.knowsAll(b.Txs)
}

// knowsAll: one that has no text has no name either, even if the book has an empty text.
func (d *desk) knowsAll(l []api.Tx) bool {
	return !slices.ContainsFunc(l, func(t api.Tx) bool {
		text, e := tx.Print(t)
		return e != api.OK || d.nameOf(text) == 0
	})
}

// nameOf is the name of a text in the book, 0 of one that isn't in it.
func (d *desk) nameOf(text string) int { return slices.Index(d.k.Texts, text) + 1 }
