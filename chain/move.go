package chain

import (
	"slices"

	"cairn/api"
	"cairn/block"
	"cairn/book"
	"cairn/clone"
	"cairn/tree"
)

// Move goes from the coins of one block to those of another one: down to where their paths part, and up from there.
func Move(k api.Book, t api.Tree, coins []api.Coin, from, to int) ([]api.Coin, api.Errno) {
	if e := book.Check(k); e != api.OK {
		return nil, e
	}
	whole, e := rowOf(t, from)
	if e != api.OK {
		return nil, e
	}
	other, e := rowOf(t, to)
	if e != api.OK {
		return nil, e
	}
	down, up := apart(whole, other)
	// Where there is nowhere to go, the answer must be new memory, too.
	coins, e = descend(k, t, clone.Coins(coins), whole, down)
	if e != api.OK {
		return nil, e
	}
	coins, _, e = climb(k, t, coins, up)
	return coins, e
}

// apart leaves in each of two rows what isn't in the other one.
func apart(a, b row) (row, row) {
	for i := range api.MaxBlocks {
		if a[i] == b[i] {
			a[i], b[i] = 0, 0
		}
	}
	return a, b
}

// descend disconnects from coins what leaves a path, the highest one first. What each has spent isn't kept, so the whole path is connected once more, to tell it.
func descend(k api.Book, t api.Tree, coins []api.Coin, whole, leaves row) ([]api.Coin, api.Errno) {
	// Where all of a path stays, nobody asks whether it could be connected.
	if leaves == (row{}) {
		return coins, api.OK
	}
	_, us, e := climb(k, t, nil, whole)
	if e != api.OK {
		return nil, e
	}
	for i, name := range slices.Backward(leaves[:]) {
		if name == 0 {
			continue
		}
		b, e := tree.Block(t, name)
		if e == api.OK {
			coins, e = block.Disconnect(k, coins, b, us[i])
		}
		if e != api.OK {
			return nil, e
		}
	}
	return coins, api.OK
}
