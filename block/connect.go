package block

import (
	"slices"

	"cairn/api"
	"cairn/coin"
	"cairn/unspent"
)

// Connect applies all transactions of a block to coins, and tells what it takes to undo that.
func Connect(k api.Book, l []api.Coin, b api.Block) (out []api.Coin, us []api.Undo, e api.Errno) {
	names, e := namesFor(k, l, b)
	if e != api.OK {
		return nil, nil, e
	}
	out, us = l, make([]api.Undo, len(b.Txs))
	for _, i := range turns(len(b.Txs)) {
		if i == 0 && !coversReward(b, us) {
			return nil, nil, api.ErrSum
		}
		if out, us[i], e = unspent.Apply(out, b.Txs[i], names[i], b.Height); e != api.OK {
			return nil, nil, e
		}
	}
	return out, us, api.OK
}

// Disconnect undoes what Connect did.
func Disconnect(k api.Book, l []api.Coin, b api.Block, us []api.Undo) ([]api.Coin, api.Errno) {
	names, e := namesFor(k, l, b)
	if e != api.OK {
		return nil, e
	}
	if len(us) != len(b.Txs) {
		return nil, api.ErrForm
	}
	for _, i := range slices.Backward(turns(len(b.Txs))) {
		if l, e = unspent.Revert(l, b.Txs[i], names[i], us[i]); e != api.OK {
			return nil, e
		}
	}
	return l, api.OK
}

// namesFor tells the names of the transactions, once the coins are found to be some.
func namesFor(k api.Book, l []api.Coin, b api.Block) ([]int, api.Errno) {
	if e := unspent.Check(l); e != api.OK {
		return nil, e
	}
	_, _, txs, e := Names(k, b)
	return txs, e
}

// turns are the places of transactions in the order in which they are applied: the first one comes last, as it is paid what the others leave.
func turns(count int) []int {
	places := make([]int, count)
	for i := range count {
		places[i] = (i + 1) % count
	}
	return places
}

// coversReward tells whether the first one gives no more than is made and than the others, which are undone by us, leave.
func coversReward(b api.Block, us []api.Undo) bool {
	// There is no error left to tell, as Check took this height.
	left, _ := coin.Reward(b.Height)
	for i, t := range b.Txs {
		for _, c := range us[i].Spent {
			left += c.O.Coin
		}
		for _, o := range t.Outs {
			left -= o.Coin
		}
	}
	return left >= 0
}
