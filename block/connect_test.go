package block

import (
	"math"
	"reflect"
	"slices"
	"testing"

	"cairn/api"
	"cairn/coin"
	"cairn/unspent"
)

// kept is a coin that anyone may spend.
func kept(tx, at, n int) api.Coin {
	return api.Coin{P: api.Point{Tx: tx, At: at}, O: out(n, push(1)...), Height: 1}
}

// at is the coin in another height.
func at(height int, c api.Coin) api.Coin {
	c.Height = height
	return c
}

// made is the coin of a reward.
func made(tx, at, n, height int) api.Coin {
	c := kept(tx, at, n)
	c.Height, c.Reward = height, true
	return c
}

// few are coins whose names are those of the texts in old.
func few() []api.Coin { return []api.Coin{kept(1, 0, 10), kept(1, 2, 20), made(2, 0, 64, 3)} }

func old() api.Book { return texts("a", "b", "c") }

// paid is a reward to anyone.
func paid(height, n int) api.Tx { return reward(height, out(n, push(1)...)) }

// P6.4

func TestConnect(t *testing.T) {
	l := few()
	for _, c := range []struct {
		what string
		k    api.Book
		l    []api.Coin
		b    api.Block
		want []api.Coin
		us   [][]api.Coin
	}{
		{"a reward of none", api.Book{}, nil, of(1, paid(1, 64)), []api.Coin{made(1, 0, 64, 1)}, [][]api.Coin{nil}},
		{"a reward that takes less", old(), l, of(4, paid(4, 1)), append(few(), made(4, 0, 1, 4)), [][]api.Coin{nil}},
		{"a reward of some outs", old(), l, of(1, reward(1, out(60, push(1)...), out(4, push(1)...))), append(few(), made(4, 0, 60, 1), made(4, 1, 4, 1)), [][]api.Coin{nil}},
		{"a halved reward", old(), l, of(9, paid(9, 32)), append(few(), made(4, 0, 32, 9)), [][]api.Coin{nil}},
		{"a fee that the reward takes", old(), l, of(4, paid(4, 71), spend(1, 0, 3)), []api.Coin{l[1], l[2], made(4, 0, 71, 4), at(4, kept(5, 0, 3))}, [][]api.Coin{nil, {l[0]}}},
		{"a fee that is left", old(), l, of(4, paid(4, 2), spend(1, 0, 3)), []api.Coin{l[1], l[2], made(4, 0, 2, 4), at(4, kept(5, 0, 3))}, [][]api.Coin{nil, {l[0]}}},
		{"fees of all", old(), l, of(5, paid(5, 64+7+15+60), spend(1, 0, 3), spend(1, 2, 5), spend(2, 0, 4)),
			[]api.Coin{made(4, 0, 146, 5), at(5, kept(5, 0, 3)), at(5, kept(6, 0, 5)), at(5, kept(7, 0, 4))}, [][]api.Coin{nil, {l[0]}, {l[1]}, {l[2]}}},
		{"one spends what another one gives", old(), l, of(4, paid(4, 64+2), spend(1, 0, 9), spend(5, 0, 8)), []api.Coin{l[1], l[2], made(4, 0, 66, 4), at(4, kept(6, 0, 8))}, [][]api.Coin{nil, {l[0]}, {at(4, kept(5, 0, 9))}}},
		{"a reward is ripe", old(), l, of(5, paid(5, 64), spend(2, 0, 64)), []api.Coin{l[0], l[1], made(4, 0, 64, 5), at(5, kept(5, 0, 64))}, [][]api.Coin{nil, {l[2]}}},
		{"known names", texts("tx 0\nin 2 0:\nout 9:1\n", "x", "tx 4\nout 64:1\n"), []api.Coin{kept(2, 0, 9)}, of(4, paid(4, 64), spend(2, 0, 9)), []api.Coin{at(4, kept(1, 0, 9)), made(3, 0, 64, 4)}, [][]api.Coin{nil, {kept(2, 0, 9)}}},
		{"no reward is left to be made, but a fee", old(), l, of(api.MaxHeight, paid(api.MaxHeight, 9), spend(1, 0, 1)), []api.Coin{l[1], l[2], made(4, 0, 9, api.MaxHeight), at(api.MaxHeight, kept(5, 0, 1))}, [][]api.Coin{nil, {l[0]}}},
		{"up to all that there is", api.Book{}, []api.Coin{kept(9, 0, api.MaxCoin-64)}, of(1, paid(1, 64)), []api.Coin{made(1, 0, 64, 1), kept(9, 0, api.MaxCoin-64)}, [][]api.Coin{nil}},
	} {
		got, us, e := Connect(c.k, c.l, c.b)
		if !unspent.Same(got, c.want) || !slices.EqualFunc(us, c.us, undoes) || e != api.OK {
			t.Errorf("%s: %v, %v, %v, want %v, %v", c.what, got, us, e, c.want, c.us)
		}
		back, e := Disconnect(c.k, c.want, c.b, us)
		if !unspent.Same(back, c.l) || e != api.OK {
			t.Errorf("back from %s: %v, %v, want %v", c.what, back, e, c.l)
		}
	}
}

func undoes(u api.Undo, spent []api.Coin) bool { return unspent.Same(u.Spent, spent) }

func unconnected(t *testing.T, what string, k api.Book, l []api.Coin, b api.Block, want api.Errno) {
	t.Helper()
	if out, us, e := Connect(k, l, b); out != nil || us != nil || e != want {
		t.Errorf("Connect, %s: %v, %v, %v, want %v", what, out, us, e, want)
	}
}

func TestConnectRefuses(t *testing.T) {
	locked := api.Tx{Ins: []api.In{in(1, 0, push(1)...)}, Outs: []api.Out{out(1)}}
	for _, c := range []struct {
		what string
		b    api.Block
		want api.Errno
	}{
		{"more than a reward", of(4, paid(4, 65)), api.ErrSum},
		{"more than a reward, in some outs", of(4, reward(4, out(64), out(1))), api.ErrSum},
		{"more than a halved reward", of(9, paid(9, 33)), api.ErrSum},
		{"any reward where none is left", of(api.MaxHeight, paid(api.MaxHeight, 1)), api.ErrSum},
		{"far more than a reward", of(4, paid(4, api.MaxCoin)), api.ErrSum},
		{"more than a reward and a fee", of(4, paid(4, 72), spend(1, 0, 3)), api.ErrSum},
		{"more than a reward and fees", of(4, paid(4, 64+7+15+1), spend(1, 0, 3), spend(1, 2, 5)), api.ErrSum},
		{"more than a reward, and no fee", of(4, paid(4, 65), spend(1, 0, 10)), api.ErrSum},
		{"what isn't there", of(4, paid(4, 1), spend(3, 0, 1)), api.ErrSpent},
		{"what is spent already", of(4, paid(4, 1), spend(1, 0, 1), spend(1, 0, 2)), api.ErrSpent},
		{"the same twice", of(4, paid(4, 1), spend(1, 0, 1), spend(1, 0, 1)), api.ErrSpent},
		{"the reward of the block itself", of(4, paid(4, 1), spend(4, 0, 1)), api.ErrSpent},
		{"what a later one gives", of(4, paid(4, 1), spend(6, 0, 1), spend(1, 0, 1)), api.ErrSpent},
		{"a reward that isn't ripe", of(4, paid(4, 1), spend(2, 0, 1)), api.ErrLate},
		{"a key that opens nothing", of(4, paid(4, 1), locked), api.ErrKey},
		{"one that gives more than it spends", of(4, paid(4, 1), spend(1, 0, 11)), api.ErrSum},
		{"one that gives more, where another one leaves it", of(4, paid(4, 1), spend(1, 2, 1), spend(1, 0, 11)), api.ErrSum},
		{"the first one's error: late", of(4, paid(4, 1), spend(1, 0, 1), spend(2, 0, 1), spend(3, 0, 1)), api.ErrLate},
		{"the first one's error: spent", of(4, paid(4, 1), spend(3, 0, 1), spend(2, 0, 1)), api.ErrSpent},
		{"others are ahead of the reward", of(4, paid(4, 65), spend(1, 0, 1), locked), api.ErrSpent},
		{"a key is ahead of the reward", of(4, paid(4, 65), locked), api.ErrKey},
	} {
		unconnected(t, c.what, old(), few(), c.b, c.want)
	}
}

func TestConnectRefusesWhatTheRewardMeets(t *testing.T) {
	two := reward(4, out(60, push(1)...), out(4, push(1)...))
	full := []api.Coin{kept(1, 0, api.MaxCoin-63)}
	unconnected(t, "a coin of its name", api.Book{}, few(), of(4, paid(4, 64)), api.ErrTwice)
	unconnected(t, "a coin of its name, for the last", api.Book{}, []api.Coin{kept(1, 1, 1)}, of(4, two), api.ErrTwice)
	unconnected(t, "the sum is ahead of twice", api.Book{}, few(), of(4, paid(4, 65)), api.ErrSum)
	unconnected(t, "no room", old(), full, of(4, paid(4, 64)), api.ErrFull)
	unconnected(t, "the sum is ahead of no room", old(), full, of(4, paid(4, 65)), api.ErrSum)
	// The fee is gone by then, so that there is room.
	got, _, e := Connect(old(), full, of(4, paid(4, 64), spend(1, 0, api.MaxCoin-64)))
	if n, _ := unspent.Total(got); n != api.MaxCoin || e != api.OK {
		t.Errorf("all that there is: %v, %v", got, e)
	}
}

// wrongCoins are lists that are none, and what is wrong with each.
func wrongCoins() map[api.Errno][]api.Coin {
	return map[api.Errno][]api.Coin{
		api.ErrMany:  make([]api.Coin, api.MaxBook*api.MaxOuts+1),
		api.ErrRange: {kept(1, 0, 10), kept(0, 0, 1)},
		api.ErrForm:  {{P: api.Point{Tx: 1}, O: out(1, noKind()...), Height: 1}},
		api.ErrTwice: {kept(1, 0, 10), kept(1, 0, 10)},
		api.ErrFull:  {kept(1, 0, api.MaxCoin), kept(1, 1, 1)},
	}
}

func TestBothTellCoinsFirst(t *testing.T) {
	for want, l := range wrongCoins() {
		for _, k := range []api.Book{{}, texts("a", "a"), numbered(api.MaxBook), numbered(api.MaxBook + 1)} {
			for _, b := range []api.Block{some(), of(1, paid(1, 64)), of(1, paid(1, 65)), {}, of(1), tooLong()} {
				unconnected(t, "wrong coins", k, l, b, want)
				undisconnected(t, "wrong coins", k, l, b, nil, want)
				undisconnected(t, "wrong coins", k, l, b, make([]api.Undo, len(b.Txs)), want)
			}
		}
	}
}

func TestBothTellNamesNext(t *testing.T) {
	check := func(what string, k api.Book, b api.Block, want api.Errno) {
		t.Helper()
		for _, l := range [][]api.Coin{nil, few()} {
			unconnected(t, what, k, l, b, want)
			undisconnected(t, what, k, l, b, nil, want)
			undisconnected(t, what, k, l, b, make([]api.Undo, len(b.Txs)), want)
		}
	}
	for _, c := range wrong() {
		check(c.what, old(), c.b, c.want)
		check(c.what, texts("a", "a"), c.b, c.want)
	}
	check("a book with a text twice", texts("a", "a"), some(), api.ErrTwice)
	check("a book of too many", numbered(api.MaxBook+1), some(), api.ErrMany)
	check("a full book", numbered(api.MaxBook), of(1, paid(1, 65)), api.ErrFull)
	check("no room for the block alone", numbered(api.MaxBook-1), of(1, paid(1, 65)), api.ErrFull)
	check("a block that is too long", old(), tooLong(), api.ErrMany)
}

func undisconnected(t *testing.T, what string, k api.Book, l []api.Coin, b api.Block, us []api.Undo, want api.Errno) {
	t.Helper()
	if out, e := Disconnect(k, l, b, us); out != nil || e != want {
		t.Errorf("Disconnect, %s: %v, %v, want %v", what, out, e, want)
	}
}

func TestDisconnectRefuses(t *testing.T) {
	b := of(4, paid(4, 64), spend(1, 0, 9), spend(1, 2, 8))
	mine, first, second := made(4, 0, 64, 4), at(4, kept(5, 0, 9)), at(4, kept(6, 0, 8))
	was := few()
	coins := func(l ...api.Coin) []api.Coin { return l }
	us := func(spent ...[]api.Coin) []api.Undo {
		var l []api.Undo
		for _, s := range spent {
			l = append(l, api.Undo{Spent: s})
		}
		return l
	}
	good := us(nil, was[:1], was[1:2])
	for _, c := range []struct {
		what string
		l    []api.Coin
		us   []api.Undo
		want api.Errno
	}{
		{"no undo", coins(was[2], mine, first, second), nil, api.ErrForm},
		{"one undo less", coins(was[2], mine, first, second), good[:2], api.ErrForm},
		{"one undo more", coins(was[2], mine, first, second), append(us(nil), good...), api.ErrForm},
		{"how many is ahead of what isn't there", nil, good[:2], api.ErrForm},
		{"nothing is there", nil, good, api.ErrSpent},
		{"the reward isn't there", coins(was[2], first, second), good, api.ErrSpent},
		{"a reward of another coin", coins(was[2], made(4, 0, 63, 4), first, second), good, api.ErrSpent},
		{"the second isn't there", coins(was[2], mine, second), good, api.ErrSpent},
		{"the third isn't there", coins(was[2], mine, first), good, api.ErrSpent},
		{"a reward that spent", coins(was[2], mine, first, second), us(was[:1], nil, was[1:2]), api.ErrForm},
		{"one that spent nothing", coins(was[2], mine, first, second), us(nil, nil, was[1:2]), api.ErrForm},
		{"undone in another order", coins(was[2], mine, first, second), us(nil, was[1:2], was[:1]), api.ErrTwice},
		{"what was spent is there", coins(was[1], was[2], mine, first, second), good, api.ErrTwice},
		{"spent of 0", coins(was[2], mine, first, second), us(nil, coins(kept(1, 0, 0)), was[1:2]), api.ErrRange},
		{"spent of far too much", coins(was[2], mine, first, second), us(nil, coins(kept(1, 0, math.MaxInt)), was[1:2]), api.ErrRange},
		{"spent of too much together", coins(was[2], mine, first, second), us(nil, coins(kept(1, 0, api.MaxCoin)), was[1:2]), api.ErrFull},
		{"the reward's error is ahead of others", coins(was[2], first), us(nil, nil, nil), api.ErrSpent},
		{"the reward's undo is ahead of others", coins(was[2], mine), us(was[:1], was[:1], was[:1]), api.ErrForm},
		{"the last one's error is ahead of one before: spent", coins(was[2], mine, first), us(nil, nil, was[1:2]), api.ErrSpent},
		{"the last one's error is ahead of one before: form", coins(was[2], mine, second), us(nil, was[:1], nil), api.ErrForm},
	} {
		undisconnected(t, c.what, old(), c.l, b, c.us, c.want)
	}
	if got, e := Disconnect(old(), coins(was[2], mine, first, second), b, good); !unspent.Same(got, was) || e != api.OK {
		t.Errorf("what all the others differ from: %v, %v", got, e)
	}
	undisconnected(t, "another book", texts("a", "b"), coins(was[2], mine, first, second), b, good, api.ErrSpent)
}

// P6.5

// drawer draws numbers, the same ones of the same seed.
type drawer struct{ seed int }

func (d *drawer) below(n int) int {
	d.seed = (d.seed*7919 + 104729) % 1000003
	return d.seed % n
}

// block draws one that mostly spends coins that are there, and that sometimes takes too much.
func (d *drawer) block(l []api.Coin, height int) api.Block {
	b := of(height, paid(height, 1+d.below(70)))
	b.Nonce = d.below(1000)
	for range d.below(api.MaxTxs) {
		if len(l) == 0 {
			continue
		}
		c := l[d.below(len(l))]
		b.Txs = append(b.Txs, spend(c.P.Tx, c.P.At, 1+d.below(c.O.Coin+1), 1+d.below(3)))
	}
	return b
}

func checkConnected(t *testing.T, k api.Book, l, m []api.Coin, b api.Block, us []api.Undo) {
	t.Helper()
	if e := unspent.Check(m); e != api.OK {
		t.Fatalf("what comes of Connect: %v", e)
	}
	before, _ := unspent.Total(l)
	after, _ := unspent.Total(m)
	if made, _ := coin.Reward(b.Height); after > before+made {
		t.Fatalf("%d becomes %d, and the reward is %d", before, after, made)
	}
	if back, e := Disconnect(k, m, b, us); !unspent.Same(back, l) || e != api.OK {
		t.Fatalf("Disconnect of Connect: %v, %v, want %v", back, e, l)
	}
}

func TestDisconnectOfConnectIsWhatWas(t *testing.T) {
	connected, spent := 0, 0
	for seed := range 150 {
		d := &drawer{seed: seed}
		var k api.Book
		var l []api.Coin
		for step := range 40 {
			b := d.block(l, step+1)
			m, us, e := Connect(k, l, b)
			if e != api.OK {
				continue
			}
			checkConnected(t, k, l, m, b, us)
			connected++
			spent += len(b.Txs) - 1
			// The book grows, and names stay.
			grown, _, _, _ := Names(k, b)
			checkConnected(t, grown, l, m, b, us)
			k, l = grown, m
		}
	}
	// What is drawn must not be refused for the most part, or nothing is tested.
	if connected < 1000 || spent < 500 {
		t.Errorf("%d were connected, %d others in them", connected, spent)
	}
}

// P2 of the whole document, where lists are handed in and out.

// roomy is a block with spare room behind each list, in which a marker stands.
func roomy() (b, room api.Block) {
	b = of(4, paid(4, 64), spend(1, 0, 9))
	for i := range b.Txs {
		b.Txs[i].Ins = append(b.Txs[i].Ins, in(99, 0))
		b.Txs[i].Outs = append(b.Txs[i].Outs, out(99))
	}
	room = b
	room.Txs = append(slices.Clone(b.Txs), api.Tx{Height: 99})
	b.Txs = slices.Clone(room.Txs)
	for i, x := range b.Txs[:2] {
		b.Txs[i].Ins, b.Txs[i].Outs = x.Ins[:len(x.Ins)-1], x.Outs[:len(x.Outs)-1]
	}
	b.Txs = b.Txs[:2]
	return b, room
}

func TestCallsOnlyRead(t *testing.T) {
	b, room := roomy()
	k := texts("a", "b", "c", "spare")
	l := append(few(), kept(9, 0, 9))
	us := []api.Undo{{}, {Spent: append([]api.Coin{kept(1, 0, 10)}, kept(9, 0, 9))[:1]}, {Spent: []api.Coin{kept(9, 1, 9)}}}
	kShort, lShort := texts(k.Texts[:3]...), l[:3]
	Check(b)
	Same(b, b)
	Print(b)
	Names(kShort, b)
	m, _, e := Connect(kShort, lShort, b)
	if e != api.OK {
		t.Fatal(e)
	}
	was := slices.Clone(m)
	if back, e := Disconnect(kShort, append(m, kept(9, 0, 9))[:len(m)], b, us[:2]); e != api.OK || !unspent.Same(back, few()) {
		t.Fatal(back, e)
	}
	want, wantRoom := roomy()
	if !reflect.DeepEqual(b, want) || !reflect.DeepEqual(room, wantRoom) || b.Txs[:3][2].Height != 99 {
		t.Error("the block is changed:", room)
	}
	if !slices.Equal(k.Texts, []string{"a", "b", "c", "spare"}) || !unspent.Same(l, append(few(), kept(9, 0, 9))) || !unspent.Same(m, was) {
		t.Error("the book or the coins are changed:", k, l, m)
	}
	if !unspent.Same(us[1].Spent[:2], []api.Coin{kept(1, 0, 10), kept(9, 0, 9)}) || len(us[2].Spent) != 1 {
		t.Error("the undo is changed:", us)
	}
}

// spoil changes every number of coins, locks too.
func spoil(l []api.Coin) {
	l = l[:cap(l)]
	for i := range l {
		for j := range l[i].O.Lock {
			l[i].O.Lock[j].N = -9
		}
		l[i].P.Tx, l[i].O.Coin = -9, -9
	}
}

func TestConnectAnswersNewMemory(t *testing.T) {
	answer := func() ([]api.Coin, []api.Undo, api.Block, []api.Coin) {
		l, b := few(), of(5, paid(5, 64), spend(1, 0, 9), spend(2, 0, 8))
		m, us, _ := Connect(old(), l, b)
		return m, us, b, l
	}
	wantM, wantUs, wantB, wantL := answer()
	m, us, b, l := answer()
	spoil(m)
	if !reflect.DeepEqual(us, wantUs) || !reflect.DeepEqual(b, wantB) || !reflect.DeepEqual(l, wantL) {
		t.Error("the coins share memory")
	}
	m, us, b, l = answer()
	spoil(us[1].Spent)
	if !reflect.DeepEqual(us[2], wantUs[2]) || !reflect.DeepEqual(m, wantM) || !reflect.DeepEqual(b, wantB) || !reflect.DeepEqual(l, wantL) {
		t.Error("an undo shares memory")
	}
	m, us, b, l = answer()
	back, _ := Disconnect(old(), m, b, us)
	spoil(back)
	if !reflect.DeepEqual(us, wantUs) || !reflect.DeepEqual(m, wantM) || !reflect.DeepEqual(b, wantB) || !reflect.DeepEqual(l, wantL) {
		t.Error("what Disconnect answers shares memory")
	}
}

func TestNamesAnswersNewMemory(t *testing.T) {
	k := texts("a", "b", "c", "spare")
	got, _, txs, _ := Names(texts(k.Texts[:3]...), some())
	for i := range got.Texts {
		got.Texts[i] = "changed"
	}
	if !slices.Equal(k.Texts, []string{"a", "b", "c", "spare"}) || !slices.Equal(txs, []int{4, 5, 6}) {
		t.Error("the book shares memory:", k, txs)
	}
}

func TestParseAnswersNewMemory(t *testing.T) {
	b, _ := Parse(someText)
	b.Txs[1].Outs[0].Lock[0].N = 9
	b.Txs[2].Outs[0].Coin = 9
	if b.Txs[2].Outs[0].Lock[0].N != 1 || b.Txs[2].Outs[1].Coin != 2 {
		t.Error("lists of one answer share memory:", b)
	}
	if again, _ := Parse(someText); !Same(again, some()) {
		t.Error("Parse keeps what it answered:", again)
	}
}
