package unspent

import (
	"math"
	"slices"
	"testing"

	"cairn/api"
)

func out(coin int, lock ...api.Op) api.Out { return api.Out{Coin: coin, Lock: lock} }

// ins name points, without a key.
func ins(points ...api.Point) []api.In {
	var l []api.In
	for _, p := range points {
		l = append(l, api.In{P: p})
	}
	return l
}

func by(p api.Point, key ...int) api.In { return api.In{P: p, Key: push(key...)} }

func reward(height int, outs ...api.Out) api.Tx { return api.Tx{Height: height, Outs: outs} }

func spend(ins []api.In, outs ...api.Out) api.Tx { return api.Tx{Ins: ins, Outs: outs} }

// coins are some that no key is needed for, one that asks for 7, and a reward of the height 3.
func coins() []api.Coin {
	return []api.Coin{coin(1, 0, 10, push(1)...), coin(1, 2, 20, push(1)...), coin(3, 0, 30, asks(7)...), made(5, 64, 3, push(1)...), coin(8, 5, 40, push(1)...)}
}

// without are coins but those of some places.
func without(l []api.Coin, places ...int) []api.Coin {
	var out []api.Coin
	for i, c := range l {
		if !slices.Contains(places, i) {
			out = append(out, c)
		}
	}
	return out
}

// P5.2

func TestApply(t *testing.T) {
	l := coins()
	for _, c := range []struct {
		what   string
		l      []api.Coin
		t      api.Tx
		name   int
		height int
		want   []api.Coin
		spent  []api.Coin
	}{
		{"a reward of none", nil, reward(3, out(9, push(1)...)), 4, 3, []api.Coin{made(4, 9, 3, push(1)...)}, nil},
		{"a reward ahead of all", []api.Coin{coin(2, 0, 1)}, reward(1, out(5)), 1, 1, []api.Coin{made(1, 5, 1), coin(2, 0, 1)}, nil},
		{"the greatest reward", nil, reward(api.MaxHeight, out(api.MaxCoin)), api.MaxBook, api.MaxHeight, []api.Coin{made(api.MaxBook, api.MaxCoin, api.MaxHeight)}, nil},
		{"a reward up to all that there is", []api.Coin{coin(1, 0, 5)}, reward(2, out(api.MaxCoin-5)), 2, 2, []api.Coin{coin(1, 0, 5), made(2, api.MaxCoin-5, 2)}, nil},
		{"no fee", l, spend(ins(at(1, 0)), out(10)), 9, 2, append(without(l, 0), of(coin(9, 0, 10), 2)), []api.Coin{l[0]}},
		{"a fee", l, spend(ins(at(1, 0)), out(3, push(5)...)), 9, 2, append(without(l, 0), of(coin(9, 0, 3, push(5)...), 2)), []api.Coin{l[0]}},
		{"more outs than ins, between others", l, spend(ins(at(8, 5)), out(1), out(2), out(3)), 4, 9,
			slices.Concat(l[:3], []api.Coin{of(coin(4, 0, 1), 9), of(coin(4, 1, 2), 9), of(coin(4, 2, 3), 9)}, l[3:4]), []api.Coin{l[4]}},
		{"more ins than outs, spent in the order of ins", l, spend(ins(at(8, 5), at(1, 0), at(1, 2)), out(70)), 2, 1,
			[]api.Coin{coin(2, 0, 70), l[2], l[3]}, []api.Coin{l[4], l[0], l[1]}},
		{"a key that opens", l, spend([]api.In{by(at(3, 0), 7)}, out(30)), 9, 1, append(without(l, 2), coin(9, 0, 30)), []api.Coin{l[2]}},
		{"a reward that is ripe", l, spend(ins(at(5, 0)), out(64)), 9, 5, append(without(l, 3), of(coin(9, 0, 64), 5)), []api.Coin{l[3]}},
		{"a coin later than the height", []api.Coin{of(coin(1, 0, 1, push(1)...), 9)}, spend(ins(at(1, 0)), out(1)), 2, 1, []api.Coin{coin(2, 0, 1)}, []api.Coin{of(coin(1, 0, 1, push(1)...), 9)}},
		{"a lock that asks for the height", []api.Coin{coin(1, 0, 1, api.Op{Kind: api.Height}, api.Op{Kind: api.Same})}, spend([]api.In{by(at(1, 0), 6)}, out(1)), 2, 6,
			[]api.Coin{of(coin(2, 0, 1), 6)}, []api.Coin{coin(1, 0, 1, api.Op{Kind: api.Height}, api.Op{Kind: api.Same})}},
		{"an in of the name itself", l, spend(ins(at(1, 0)), out(4)), 1, 2, append([]api.Coin{of(coin(1, 0, 4), 2)}, l[1:]...), []api.Coin{l[0]}},
		{"outs beside others of the name", l, spend(ins(at(8, 5)), out(4)), 8, 2, append(without(l, 4), of(coin(8, 0, 4), 2)), []api.Coin{l[4]}},
		{"all is spent", []api.Coin{coin(1, 0, 1, push(1)...)}, spend(ins(at(1, 0)), out(1)), 1, 1, []api.Coin{coin(1, 0, 1)}, []api.Coin{coin(1, 0, 1, push(1)...)}},
		{"as many outs as may be, of a full list but one transaction's", every()[api.MaxOuts:], reward(1, out(1), out(1), out(1), out(1), out(1), out(1)), 1, 1, rewarded(every()), nil},
	} {
		got, u, e := Apply(c.l, c.t, c.name, c.height)
		if !Same(got, c.want) || !Same(u.Spent, c.spent) || e != api.OK {
			t.Errorf("%s: %v, %v, %v, want %v, %v", c.what, got, u, e, c.want, c.spent)
		}
	}
}

// rewarded are coins of which those of the first transaction are of a reward.
func rewarded(l []api.Coin) []api.Coin {
	for i := range api.MaxOuts {
		l[i].Reward = true
	}
	return l
}

// wrongTxs are transactions that are none, and what is wrong with each.
func wrongTxs() []struct {
	what string
	t    api.Tx
	want api.Errno
} {
	return []struct {
		what string
		t    api.Tx
		want api.Errno
	}{
		{"nothing", api.Tx{}, api.ErrForm},
		{"too many ins", spend(make([]api.In, api.MaxIns+1)), api.ErrMany},
		{"too many outs", reward(1, make([]api.Out, api.MaxOuts+1)...), api.ErrMany},
		{"a reward of no height", reward(0, out(1)), api.ErrRange},
		{"no reward, of a height", api.Tx{Height: 3, Ins: ins(at(1, 0)), Outs: []api.Out{out(1)}}, api.ErrRange},
		{"a key of no kind", spend([]api.In{{P: at(1, 0), Key: noKind()}}, out(1)), api.ErrForm},
		{"an in twice", spend(ins(at(1, 0), at(1, 0)), out(1)), api.ErrTwice},
		{"an in that isn't there, twice", spend(ins(at(9, 0), at(9, 0)), out(1)), api.ErrTwice},
		{"an out of nothing", spend(ins(at(1, 0)), out(0)), api.ErrRange},
		{"an out with a lock of too many", spend(ins(at(1, 0)), out(1, tooMany()...)), api.ErrMany},
		{"outs of too much", spend(ins(at(9, 0)), out(api.MaxCoin), out(1)), api.ErrFull},
		{"an out of far too much", spend(ins(at(1, 0)), out(math.MaxInt)), api.ErrRange},
	}
}

func TestApplyTellsWrongTransactions(t *testing.T) {
	for _, c := range wrongTxs() {
		for _, n := range []int{9, 0, math.MaxInt} {
			if l, u, e := Apply(coins(), c.t, n, n); l != nil || u.Spent != nil || e != c.want {
				t.Errorf("%s: %v, %v, %v, want %v", c.what, l, u, e, c.want)
			}
		}
	}
}

func TestApplyRefuses(t *testing.T) {
	l := coins()
	mine, gone, locked, unripe := by(at(1, 0)), by(at(2, 0)), by(at(3, 0), 6), by(at(5, 0))
	for _, c := range []struct {
		what   string
		t      api.Tx
		name   int
		height int
		want   api.Errno
	}{
		{"no name", spend(ins(at(2, 0)), out(1)), 0, 3, api.ErrRange},
		{"name below", reward(3, out(1)), -1, 3, api.ErrRange},
		{"name above", spend(ins(at(2, 0)), out(1)), api.MaxBook + 1, 3, api.ErrRange},
		{"name far above", reward(3, out(1)), math.MaxInt, 3, api.ErrRange},
		{"no height", spend(ins(at(2, 0)), out(1)), 9, 0, api.ErrRange},
		{"height below", spend(ins(at(2, 0)), out(1)), 9, math.MinInt, api.ErrRange},
		{"height above", spend(ins(at(2, 0)), out(1)), 9, api.MaxHeight + 1, api.ErrRange},
		{"range is ahead of a reward's height", reward(3, out(1)), 0, 4, api.ErrRange},
		{"a reward of a lower height", reward(3, out(1)), 9, 4, api.ErrForm},
		{"a reward of a higher height", reward(3, out(1)), 9, 2, api.ErrForm},
		{"a reward's height is ahead of twice", reward(3, out(1)), 1, 4, api.ErrForm},
		{"what isn't there", spend([]api.In{gone}, out(1)), 9, 3, api.ErrSpent},
		{"another place", spend(ins(at(1, 1)), out(1)), 9, 3, api.ErrSpent},
		{"what it gives itself", spend(ins(at(9, 0)), out(1)), 9, 3, api.ErrSpent},
		{"a reward in its own block", spend([]api.In{unripe}, out(1)), 9, 3, api.ErrLate},
		{"a reward a block early", spend([]api.In{unripe}, out(1)), 9, 4, api.ErrLate},
		{"a reward ahead of its own block", spend([]api.In{unripe}, out(1)), 9, 1, api.ErrLate},
		{"late is ahead of the key", spend([]api.In{by(at(5, 0), 1)}, out(1)), 9, 4, api.ErrLate},
		{"a key of another number", spend([]api.In{locked}, out(1)), 9, 3, api.ErrKey},
		{"no key", spend(ins(at(3, 0)), out(1)), 9, 3, api.ErrKey},
		{"a key too much", spend([]api.In{by(at(1, 0), 1)}, out(1)), 9, 3, api.ErrKey},
		{"a key that fails", spend([]api.In{{P: at(1, 0), Key: []api.Op{{Kind: api.Drop}}}}, out(1)), 9, 3, api.ErrKey},
		{"the first in's error: spent", spend([]api.In{mine, gone, locked, unripe}, out(1)), 9, 3, api.ErrSpent},
		{"the first in's error: key", spend([]api.In{locked, unripe, gone}, out(1)), 9, 3, api.ErrKey},
		{"the first in's error: late", spend([]api.In{unripe, gone, locked}, out(1)), 9, 3, api.ErrLate},
		{"more than what is spent", spend([]api.In{mine}, out(11)), 9, 3, api.ErrSum},
		{"more than what is spent, of some", spend(ins(at(1, 0), at(1, 2)), out(10), out(20), out(1)), 9, 3, api.ErrSum},
		{"far more than what is spent", spend([]api.In{mine}, out(api.MaxCoin)), 9, 3, api.ErrSum},
		{"ins are ahead of the sum", spend([]api.In{mine, locked}, out(999)), 9, 3, api.ErrKey},
		{"the sum is ahead of twice", spend([]api.In{mine}, out(11)), 3, 3, api.ErrSum},
		{"a coin of its name is there", spend([]api.In{mine}, out(1)), 3, 3, api.ErrTwice},
		{"a coin of its name is there, for the last", spend(ins(at(8, 5)), out(1), out(1), out(1)), 1, 3, api.ErrTwice},
		{"a coin of its name is there, beside one that is spent", spend([]api.In{mine}, out(1), out(1), out(1)), 1, 3, api.ErrTwice},
		{"a reward's coin is there", reward(3, out(1)), 5, 3, api.ErrTwice},
		{"twice is ahead of too much", reward(3, out(api.MaxCoin)), 5, 3, api.ErrTwice},
		{"a reward of too much", reward(3, out(api.MaxCoin)), 9, 3, api.ErrFull},
		{"a reward of one too much", reward(3, out(api.MaxCoin-164), out(1)), 2, 3, api.ErrFull},
	} {
		if l, u, e := Apply(l, c.t, c.name, c.height); l != nil || u.Spent != nil || e != c.want {
			t.Errorf("%s: %v, %v, %v, want %v", c.what, l, u, e, c.want)
		}
	}
}

// P5.3

func TestRevert(t *testing.T) {
	l := coins()
	for _, c := range []struct {
		what  string
		l     []api.Coin
		t     api.Tx
		name  int
		spent []api.Coin
		want  []api.Coin
	}{
		{"a reward", []api.Coin{made(4, 9, 3, push(1)...)}, reward(3, out(9, push(1)...)), 4, nil, nil},
		{"a reward among others", l, reward(3, out(64, push(1)...)), 5, []api.Coin{}, without(l, 3)},
		{"one spent", l, spend(ins(at(2, 0)), out(30, asks(7)...)), 3, []api.Coin{coin(2, 0, 50)}, slices.Concat(l[:2], []api.Coin{coin(2, 0, 50)}, l[3:])},
		{"spent in no order", []api.Coin{coin(5, 0, 6)}, spend(ins(at(9, 1), at(1, 0), at(9, 0)), out(6)), 5, []api.Coin{coin(9, 1, 1), made(1, 3, 2), coin(9, 0, 2)}, []api.Coin{made(1, 3, 2), coin(9, 0, 2), coin(9, 1, 1)}},
		{"an in of the name itself", []api.Coin{coin(1, 0, 4)}, spend(ins(at(1, 0)), out(4)), 1, []api.Coin{coin(1, 0, 9)}, []api.Coin{coin(1, 0, 9)}},
		{"keys are not asked for", l, spend([]api.In{by(at(2, 0), 6)}, out(30, asks(7)...)), 3, []api.Coin{coin(2, 0, 30, asks(7)...)}, slices.Concat(l[:2], []api.Coin{coin(2, 0, 30, asks(7)...)}, l[3:])},
		{"of several outs those beside them stay", every(), reward(1, out(1), out(1)), 1, nil, every()[2:]},
		{"an empty lock is no lock", []api.Coin{coin(1, 0, 4)}, reward(1, api.Out{Coin: 4, Lock: []api.Op{}}), 1, nil, nil},
		{"up to all that there is", []api.Coin{coin(1, 0, 4), coin(3, 0, 5)}, spend(ins(at(2, 0)), out(4)), 1, []api.Coin{coin(2, 0, api.MaxCoin-5)}, []api.Coin{coin(2, 0, api.MaxCoin-5), coin(3, 0, 5)}},
	} {
		got, e := Revert(c.l, c.t, c.name, api.Undo{Spent: c.spent})
		if !Same(got, c.want) || e != api.OK {
			t.Errorf("%s: %v, %v, want %v", c.what, got, e, c.want)
		}
	}
}

func TestRevertTellsWrongTransactions(t *testing.T) {
	for _, c := range wrongTxs() {
		for _, spent := range [][]api.Coin{nil, {coin(1, 0, 1)}, make([]api.Coin, len(c.t.Ins))} {
			if l, e := Revert(coins(), c.t, 9, api.Undo{Spent: spent}); l != nil || e != c.want {
				t.Errorf("%s: %v, %v, want %v", c.what, l, e, c.want)
			}
		}
	}
}

func TestRevertRefuses(t *testing.T) {
	// l has what a transaction of the name 3 gave.
	l := []api.Coin{coin(1, 0, 10), coin(3, 0, 4, push(1)...), coin(3, 1, 5), coin(4, 0, 6)}
	outs := []api.Out{out(4, push(1)...), out(5)}
	two := ins(at(2, 0), at(6, 0))
	good := []api.Coin{coin(2, 0, 7), coin(6, 0, 8)}
	lost := func(spent ...api.Coin) []api.Coin { return spent }
	for _, c := range []struct {
		what  string
		t     api.Tx
		name  int
		spent []api.Coin
		want  api.Errno
	}{
		{"nothing is spent", spend(two, outs...), 3, nil, api.ErrForm},
		{"too few are spent", spend(two, outs...), 3, good[:1], api.ErrForm},
		{"too many are spent", spend(two[:1], outs...), 3, good, api.ErrForm},
		{"a reward spends", reward(1, outs...), 3, good[:1], api.ErrForm},
		{"how many is ahead of outs", spend(two, out(1)), 9, nil, api.ErrForm},
		{"another name", spend(two, outs...), 2, good, api.ErrSpent},
		{"no name", spend(two, outs...), 0, good, api.ErrSpent},
		{"a name far below", spend(two, outs...), math.MinInt, good, api.ErrSpent},
		{"a name far above", spend(two, outs...), math.MaxInt, good, api.ErrSpent},
		{"an out of another coin", spend(two, out(3, push(1)...), out(5)), 3, good, api.ErrSpent},
		{"an out of another lock", spend(two, out(4, push(2)...), out(5)), 3, good, api.ErrSpent},
		{"an out of a longer lock", spend(two, out(4, push(1)...), out(5, push(1)...)), 3, good, api.ErrSpent},
		{"outs in another order", spend(two, outs[1], outs[0]), 3, good, api.ErrSpent},
		{"an out that isn't there", spend(two, out(4, push(1)...), out(5), out(6)), 3, good, api.ErrSpent},
		{"outs are ahead of ins", spend(two, out(4)), 3, lost(coin(1, 0, 1), coin(1, 0, 1)), api.ErrSpent},
		{"another point is spent", spend(two, outs...), 3, lost(coin(2, 1, 7), good[1]), api.ErrTwice},
		{"in another order", spend(two, outs...), 3, lost(good[1], good[0]), api.ErrTwice},
		{"one spent twice", spend(two, outs...), 3, lost(good[0], good[0]), api.ErrTwice},
		{"a spent one is there", spend(ins(at(1, 0)), outs...), 3, lost(coin(1, 0, 7)), api.ErrTwice},
		{"a spent one is there, alike", spend(ins(at(6, 0), at(4, 0)), outs...), 3, lost(good[1], l[3]), api.ErrTwice},
		{"a spent one of the name is there, as it was not given", spend(ins(at(3, 1)), outs[:1]...), 3, lost(coin(3, 1, 7)), api.ErrTwice},
		{"ins are ahead of what comes", spend(two, outs...), 3, lost(coin(2, 0, 0), coin(6, 1, 1)), api.ErrTwice},
		{"a point that may not be", spend(two, outs...), 3, lost(good[0], coin(math.MaxInt, math.MinInt, 8)), api.ErrTwice},
		{"spent of 0", spend(two, outs...), 3, lost(coin(2, 0, 0), good[1]), api.ErrRange},
		{"spent of far too much", spend(two, outs...), 3, lost(coin(2, 0, math.MaxInt), good[1]), api.ErrRange},
		{"spent of far less", spend(two, outs...), 3, lost(good[0], coin(6, 0, math.MinInt)), api.ErrRange},
		{"spent of no height", spend(two, outs...), 3, lost(of(good[0], 0), good[1]), api.ErrRange},
		{"spent with a lock of no kind", spend(two, outs...), 3, lost(good[0], coin(6, 0, 1, noKind()...)), api.ErrForm},
		{"spent with a lock of too many", spend(two, outs...), 3, lost(good[0], coin(6, 0, 1, tooMany()...)), api.ErrMany},
		{"too much together", spend(two, outs...), 3, lost(good[0], coin(6, 0, api.MaxCoin-22)), api.ErrFull},
		{"the first coin's error: lock, of the later in", spend([]api.In{two[1], two[0]}, outs...), 3, lost(coin(6, 0, 0), coin(2, 0, 1, noKind()...)), api.ErrForm},
		{"the first coin's error: too much", spend(two, outs...), 3, lost(coin(2, 0, api.MaxCoin), coin(6, 0, 0)), api.ErrFull},
	} {
		if got, e := Revert(l, c.t, c.name, api.Undo{Spent: c.spent}); got != nil || e != c.want {
			t.Errorf("%s: %v, %v, want %v", c.what, got, e, c.want)
		}
	}
}

// P5.4

// drawer draws numbers, the same ones of the same seed.
type drawer struct{ seed int }

func (d *drawer) below(n int) int {
	d.seed = (d.seed*7919 + 104729) % 1000003
	return d.seed % n
}

// tx draws a transaction, mostly of coins that are there and of keys that open them.
func (d *drawer) tx(l []api.Coin, height int) api.Tx {
	var x api.Tx
	for range d.below(4) {
		if len(l) > 0 {
			c := l[d.below(len(l))]
			x.Ins = append(x.Ins, by(c.P, c.O.Lock[0].N))
		}
	}
	if len(x.Ins) == 0 {
		x.Height = height
	}
	for range 1 + d.below(3) {
		x.Outs = append(x.Outs, out(1+d.below(20), asks(d.below(3))...))
	}
	return x
}

func sumOuts(t api.Tx) int {
	sum := 0
	for _, o := range t.Outs {
		sum += o.Coin
	}
	return sum
}

// fee is what is spent and not given.
func fee(t api.Tx, u api.Undo) int {
	spent, _ := Total(sorted(u.Spent))
	if len(t.Ins) == 0 {
		return -sumOuts(t)
	}
	return spent - sumOuts(t)
}

func sorted(l []api.Coin) []api.Coin {
	return slices.SortedFunc(slices.Values(l), func(a, b api.Coin) int { return a.P.Tx*api.MaxOuts + a.P.At - b.P.Tx*api.MaxOuts - b.P.At })
}

func checkApplied(t *testing.T, l, m []api.Coin, x api.Tx, name int, u api.Undo) {
	if e := Check(m); e != api.OK {
		t.Fatalf("Check of what comes: %v", e)
	}
	before, _ := Total(l)
	after, _ := Total(m)
	if after != before-fee(x, u) || len(x.Ins) > 0 && after > before {
		t.Fatalf("%d becomes %d, and %d was the fee", before, after, fee(x, u))
	}
	back, e := Revert(m, x, name, u)
	if !Same(back, l) || e != api.OK {
		t.Fatalf("Revert of Apply: %v, %v, want %v", back, e, l)
	}
	ofName := func(in api.In) bool { return in.P.Tx == name }
	for i, in := range x.Ins {
		if c, e := Find(l, in.P); !Same([]api.Coin{c}, u.Spent[i:i+1]) || e != api.OK {
			t.Fatalf("%v was spent for %v: %v", u.Spent[i], in.P, e)
		}
		if _, e := Find(m, in.P); e != api.ErrSpent && !slices.ContainsFunc(x.Ins, ofName) {
			t.Fatalf("%v is still there: %v", in.P, e)
		}
	}
	if _, _, e := Apply(m, x, name, 1); len(x.Ins) > 0 && !slices.ContainsFunc(x.Ins, ofName) && e != api.ErrSpent {
		t.Fatalf("%v is spent twice: %v", x.Ins, e)
	}
}

func TestRevertOfApplyIsWhatWas(t *testing.T) {
	applied, itself := 0, 0
	for seed := range 200 {
		d := &drawer{seed: seed}
		var l []api.Coin
		for step := range 60 {
			x, name, height := d.tx(l, step+1), 1+d.below(30), step+1
			m, u, e := Apply(l, x, name, height)
			if e != api.OK {
				continue
			}
			checkApplied(t, l, m, x, name, u)
			applied++
			if slices.ContainsFunc(x.Ins, func(in api.In) bool { return in.P.Tx == name }) {
				itself++
			}
			l = m
		}
	}
	// What is drawn must not be refused for the most part, or nothing is tested.
	if applied < 3000 || itself < 50 {
		t.Errorf("%d were applied, %d of them of their own name", applied, itself)
	}
}

func TestManyAreUndoneInTurn(t *testing.T) {
	for seed := range 50 {
		d := &drawer{seed: seed}
		var l []api.Coin
		var undo []func([]api.Coin) []api.Coin
		for step := range 60 {
			x, name := d.tx(l, step+1), step+1
			m, u, e := Apply(l, x, name, step+1)
			if e != api.OK {
				continue
			}
			was := l
			undo = append(undo, func(m []api.Coin) []api.Coin {
				back, e := Revert(m, x, name, u)
				if !Same(back, was) || e != api.OK {
					t.Fatalf("Revert: %v, %v, want %v", back, e, was)
				}
				return back
			})
			l = m
		}
		for _, back := range slices.Backward(undo) {
			l = back(l)
		}
		if len(l) != 0 || len(undo) < 10 {
			t.Fatalf("behind %d: %v", len(undo), l)
		}
	}
}
