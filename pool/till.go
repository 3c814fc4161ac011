package pool

import (
	"cairn/api"
	"cairn/book"
	"cairn/clone"
	"cairn/number"
	"cairn/tx"
	"cairn/unspent"
)

// till has a book and what is left of coins, while transactions are done there, one behind the other, at one height.
type till struct {
	k      api.Book
	coins  []api.Coin
	height int
}

// open copies the book and the coins: where nothing is done, they are answered as they are, and must be new memory, too.
func open(k api.Book, coins []api.Coin, height int) (*till, api.Errno) {
	k, _, e := book.All(k, nil)
	if e != api.OK {
		return nil, e
	}
	if e := unspent.Check(coins); e != api.OK {
		return nil, e
	}
	if !number.Within(height, 1, api.MaxHeight) {
		return nil, api.ErrRange
	}
	return &till{k: k, coins: clone.Coins(coins), height: height}, api.OK
}

// do does one that is no reward, and tells what it leaves over; one that can't be done has no name in the book.
func (c *till) do(t api.Tx) (fee int, e api.Errno) {
	text, e := tx.Print(t)
	if e != api.OK {
		return 0, e
	}
	if len(t.Ins) == 0 {
		return 0, api.ErrForm
	}
	k, name, e := book.Name(c.k, text)
	if e != api.OK {
		return 0, e
	}
	coins, _, e := unspent.Apply(c.coins, t, name, c.height)
	if e != api.OK {
		return 0, e
	}
	fee = worth(c.coins) - worth(coins)
	c.k, c.coins = k, coins
	return fee, api.OK
}

func worth(l []api.Coin) int {
	// There is no error left to tell, as open and Apply took these coins.
	sum, _ := unspent.Total(l)
	return sum
}

// sweep does all that can be done, and hands a copy of each, with what it leaves over, to keep.
func sweep(k api.Book, coins []api.Coin, l []api.Tx, height int, keep func(t api.Tx, fee int)) (*till, api.Errno) {
	c, e := open(k, coins, height)
	if e != api.OK {
		return nil, e
	}
	if len(l) > api.MaxPool {
		return nil, api.ErrMany
	}
	for _, t := range l {
		if fee, e := c.do(t); e == api.OK {
			keep(clone.Tx(t), fee)
		}
	}
	return c, api.OK
}
