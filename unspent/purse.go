package unspent

import (
	"slices"

	"cairn/api"
	"cairn/lock"
	"cairn/output"
)

// purse has coins in the order of their points, while some are taken and others are put.
type purse struct{ coins []api.Coin }

// open copies the list, but shares its locks: they are only read, and copied with what is answered.
func open(l []api.Coin) *purse { return &purse{coins: slices.Clone(l)} }

// take tells the coin of a point, which isn't there any more, unless there was none.
func (p *purse) take(at api.Point) (api.Coin, bool) {
	i, found := place(p.coins, at)
	if !found {
		return api.Coin{}, false
	}
	c := p.coins[i]
	p.coins = slices.Delete(p.coins, i, i+1)
	return c, true
}

// put tells whether there is room for a coin: its point must be that of no other.
func (p *purse) put(c api.Coin) bool {
	i, found := place(p.coins, c.P)
	if !found {
		p.coins = slices.Insert(p.coins, i, c)
	}
	return !found
}

// spend takes what ins name, if they may have it at this height, and tells what that was.
func (p *purse) spend(ins []api.In, height int) ([]api.Coin, api.Errno) {
	spent := make([]api.Coin, len(ins))
	for i, in := range ins {
		c, found := p.take(in.P)
		if !found {
			return nil, api.ErrSpent
		}
		if c.Reward && height < c.Height+api.Ripe {
			return nil, api.ErrLate
		}
		if opens, e := lock.Opens(c.O.Lock, in.Key, height); !opens || e != api.OK {
			return nil, api.ErrKey
		}
		spent[i] = c
	}
	return spent, api.OK
}

// give puts a coin of each out. What was spent is gone by now, so that its point is free.
func (p *purse) give(t api.Tx, name, height int) api.Errno {
	for i, o := range t.Outs {
		c := api.Coin{P: api.Point{Tx: name, At: i}, O: o, Height: height, Reward: isReward(t)}
		if !p.put(c) {
			return api.ErrTwice
		}
	}
	return api.OK
}

// takeBack takes the coins that give put.
func (p *purse) takeBack(outs []api.Out, name int) api.Errno {
	for i, o := range outs {
		c, found := p.take(api.Point{Tx: name, At: i})
		if !found || !output.Same(c.O, o) {
			return api.ErrSpent
		}
	}
	return api.OK
}

// putBack puts the coins that spend took.
func (p *purse) putBack(ins []api.In, spent []api.Coin) api.Errno {
	for i, c := range spent {
		if c.P != ins[i].P || !p.put(c) {
			return api.ErrTwice
		}
	}
	return api.OK
}
