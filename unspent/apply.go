package unspent

import (
	"cairn/api"
	"cairn/clone"
	"cairn/number"
	"cairn/tx"
)

// Apply spends what t spends and gives what it gives, and tells what it takes to undo that.
func Apply(l []api.Coin, t api.Tx, name, height int) ([]api.Coin, api.Undo, api.Errno) {
	if e := checkApply(l, t, name, height); e != api.OK {
		return nil, api.Undo{}, e
	}
	p := open(l)
	spent, e := p.spend(t.Ins, height)
	if e == api.OK {
		e = covers(spent, t)
	}
	if e == api.OK {
		e = p.give(t, name, height)
	}
	if e == api.OK {
		e = Check(p.coins)
	}
	if e != api.OK {
		return nil, api.Undo{}, e
	}
	return clone.Coins(p.coins), api.Undo{Spent: clone.Coins(spent)}, api.OK
}

func checkApply(l []api.Coin, t api.Tx, name, height int) api.Errno {
	if e := checkBoth(l, t); e != api.OK {
		return e
	}
	if !number.Within(name, 1, api.MaxBook) || !isHeight(height) {
		return api.ErrRange
	}
	if isReward(t) && t.Height != height {
		return api.ErrForm
	}
	return api.OK
}

func checkBoth(l []api.Coin, t api.Tx) api.Errno {
	if e := Check(l); e != api.OK {
		return e
	}
	return tx.Check(t)
}

func isReward(t api.Tx) bool { return len(t.Ins) == 0 }

// covers tells whether what t gives was spent; a reward makes what it gives.
func covers(spent []api.Coin, t api.Tx) api.Errno {
	left := 0
	for _, c := range spent {
		left += c.O.Coin
	}
	for _, o := range t.Outs {
		left -= o.Coin
	}
	if left < 0 && !isReward(t) {
		return api.ErrSum
	}
	return api.OK
}

// Revert undoes what Apply did: takes back what t gave, and puts back what it spent.
func Revert(l []api.Coin, t api.Tx, name int, u api.Undo) ([]api.Coin, api.Errno) {
	if e := checkBoth(l, t); e != api.OK {
		return nil, e
	}
	if len(u.Spent) != len(t.Ins) {
		return nil, api.ErrForm
	}
	p := open(l)
	e := p.takeBack(t.Outs, name)
	if e == api.OK {
		e = p.putBack(t.Ins, u.Spent)
	}
	if e == api.OK {
		e = Check(p.coins)
	}
	if e != api.OK {
		return nil, e
	}
	return clone.Coins(p.coins), api.OK
}
