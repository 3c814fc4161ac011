package pool

import (
	"math"
	"reflect"
	"slices"
	"testing"

	"cairn/api"
	"cairn/block"
	"cairn/clone"
	"cairn/coin"
	"cairn/unspent"
)

// unmade asks for a block of a head: parent, height, work, nonce.
func unmade(t *testing.T, what string, k api.Book, c []api.Coin, l []api.Tx, head [4]int, to []api.Op, want api.Errno) {
	t.Helper()
	if b, e := Make(k, c, l, head[0], head[1], head[2], head[3], to); !reflect.DeepEqual(b, api.Block{}) || e != want {
		t.Errorf("Make, %s: %v, %v, want %v", what, b, e, want)
	}
}

// poor is a height for which no reward is left: each is halved to nothing by then.
const poor = 60

// P9.3

func TestMake(t *testing.T) {
	l, waits := crowd()
	for _, w := range []struct {
		what   string
		coins  []api.Coin
		l      []api.Tx
		height int
		to     []api.Op
		reward int
		others []api.Tx
	}{
		{"nothing waits", some(), nil, 3, push(1), 64, nil},
		{"the first block", nil, nil, 0, asks(7), 64, nil},
		{"a lock of nothing", nil, nil, 0, nil, 64, nil},
		{"the last full reward", some(), nil, 7, push(1), 64, nil},
		{"a halved reward", some(), nil, 8, push(1), 32, nil},
		{"no fee", some(), txs(spend(1, 0, 10)), 3, push(1), 64, txs(spend(1, 0, 10))},
		{"a fee", some(), txs(spend(1, 0, 3)), 3, push(1), 71, txs(spend(1, 0, 3))},
		{"what can't be done goes", some(), txs(spend(9, 0, 1), spend(1, 0, 3), api.Tx{}, spend(1, 0, 2), paid(4, 1)), 3, push(1), 71, txs(spend(1, 0, 3))},
		{"one on another one", some(), txs(spend(1, 0, 9), spend(4, 0, 7)), 3, push(1), 67, txs(spend(1, 0, 9), spend(4, 0, 7))},
		{"ripe at the height one more", some(), txs(spend(2, 0, 60)), 4, push(1), 68, txs(spend(2, 0, 60))},
		{"not ripe at the height one more", some(), txs(spend(2, 0, 60)), 3, push(1), 64, nil},
		{"as many as a block has", l, waits[1:4], 3, push(1), 64 + 1 + 2 + 3, waits[1:4]},
		{"more than a block has", l, waits, 3, push(1), 64 + 0 + 1 + 2, waits[:3]},
		{"more than a block has, of which some go", l[2:], waits, 3, push(1), 64 + 2 + 3 + 4, waits[2:5]},
		{"no reward is left, but a fee", some(), txs(spend(1, 0, 9)), poor, push(1), 1, txs(spend(1, 0, 9))},
		{"the greatest height", some(), txs(spend(1, 0, 9)), api.MaxHeight - 1, push(1), 1, txs(spend(1, 0, 9))},
		{"up to all that there is", coins(kept(1, 0, api.MaxCoin-63, 1)), txs(spend(1, 0, 1)), 3, push(1), api.MaxCoin, txs(spend(1, 0, 1))},
	} {
		pays := api.Tx{Height: w.height + 1, Outs: []api.Out{{Coin: w.reward, Lock: w.to}}}
		want := api.Block{Parent: 5, Height: w.height + 1, Work: 7, Nonce: 8, Txs: append(txs(pays), w.others...)}
		if b, e := Make(old(), w.coins, w.l, 5, w.height, 7, 8, w.to); !block.Same(b, want) || e != api.OK {
			t.Errorf("%s: %v, %v, want %v", w.what, b, e, want)
		}
	}
}

func TestMakeOfTheBoundsOfABlock(t *testing.T) {
	for _, head := range [][3]int{{0, 1, 0}, {api.MaxBook, api.MaxWork, api.MaxCoin}} {
		b, e := Make(old(), some(), nil, head[0], 3, head[1], head[2], longLock(api.MaxOps))
		if b.Parent != head[0] || b.Work != head[1] || b.Nonce != head[2] || len(b.Txs) != 1 || e != api.OK {
			t.Errorf("%v: %v, %v", head, b, e)
		}
	}
	if b, e := Make(numbered(api.MaxBook), some(), txs(spend(1, 0, 9)), 0, 3, 1, 0, nil); len(b.Txs) != 1 || b.Txs[0].Outs[0].Coin != 64 || e != api.OK {
		t.Errorf("no name for what waits: %v, %v", b, e)
	}
}

// longLock is a lock of so many orders.
func longLock(count int) []api.Op { return slices.Repeat(push(1), count) }

func TestMakeRefuses(t *testing.T) {
	good := [4]int{0, 3, 1, 0}
	l, waits := crowd()
	for _, w := range []struct {
		what  string
		coins []api.Coin
		l     []api.Tx
		head  [4]int
		to    []api.Op
		want  api.Errno
	}{
		{"a parent below 0", some(), nil, [4]int{-1, 3, 1, 0}, push(1), api.ErrRange},
		{"a parent above all names", some(), nil, [4]int{api.MaxBook + 1, 3, 1, 0}, push(1), api.ErrRange},
		{"no work", some(), nil, [4]int{0, 3, 0, 0}, push(1), api.ErrRange},
		{"too much work", some(), nil, [4]int{0, 3, api.MaxWork + 1, 0}, push(1), api.ErrRange},
		{"a nonce below 0", some(), nil, [4]int{0, 3, 1, -1}, push(1), api.ErrRange},
		{"a nonce that is too great", some(), nil, [4]int{0, 3, 1, math.MaxInt}, push(1), api.ErrRange},
		{"a lock of too many", some(), nil, good, longLock(api.MaxOps + 1), api.ErrMany},
		{"a lock of no kind", some(), nil, good, make([]api.Op, 1), api.ErrForm},
		{"a lock of far too much", some(), nil, good, push(1000001), api.ErrRange},
		{"the head is ahead of the lock", some(), nil, [4]int{0, 3, 0, 0}, make([]api.Op, 1), api.ErrRange},
		{"nothing to be had", some(), nil, [4]int{0, poor, 1, 0}, push(1), api.ErrSum},
		{"no fee", some(), txs(spend(1, 0, 10)), [4]int{0, poor, 1, 0}, push(1), api.ErrSum},
		{"a fee of what doesn't stay", some(), txs(spend(9, 0, 1), spend(3, 0, 1)), [4]int{0, poor, 1, 0}, push(1), api.ErrSum},
		{"nothing to be had is ahead of the head", some(), nil, [4]int{-1, poor, 0, -1}, push(1), api.ErrSum},
		{"nothing to be had is ahead of the lock", some(), nil, [4]int{0, poor, 1, 0}, make([]api.Op, 1), api.ErrSum},
		{"more than all that there is", coins(kept(1, 0, api.MaxCoin-62, 1)), txs(spend(1, 0, 1)), good, push(1), api.ErrRange},
		{"a lock is ahead of more than all that there is", coins(kept(1, 0, api.MaxCoin, 1)), txs(spend(1, 0, 1)), good, make([]api.Op, 1), api.ErrForm},
		{"a fee of those that the block has no room for", l, txs(waits[0], spend(1, 1, 100), spend(1, 2, 100), waits[3]), [4]int{0, poor, 1, 0}, push(1), api.ErrSum},
	} {
		unmade(t, w.what, old(), w.coins, w.l, w.head, w.to, w.want)
	}
}

func TestMakeKnowsWhereRewardsEnd(t *testing.T) {
	for height := range api.MaxHeight {
		want, _ := coin.Reward(height + 1)
		b, e := Make(api.Book{}, nil, nil, 0, height, 1, 0, nil)
		if want == 0 && e == api.ErrSum {
			continue
		}
		if e != api.OK || b.Txs[0].Outs[0].Coin != want {
			t.Fatalf("on the height %d: %v, %v, want %d", height, b, e, want)
		}
	}
}

// P9.4

// drawer draws numbers, the same ones of the same seed.
type drawer struct{ seed int }

func (d *drawer) below(n int) int {
	d.seed = (d.seed*7919 + 104729) % 1000003
	return d.seed % n
}

// tx draws one that mostly spends what is there, and that sometimes gives too much.
func (d *drawer) tx(l []api.Coin) api.Tx {
	if len(l) == 0 || d.below(12) == 0 {
		return spend(1+d.below(api.MaxBook), d.below(api.MaxOuts), 1)
	}
	c := l[d.below(len(l))]
	t := spend(c.P.Tx, c.P.At, 1+d.below(c.O.Coin+1))
	if other := l[d.below(len(l))]; d.below(4) == 0 && other.P != c.P {
		t = also(t, other.P.Tx, other.P.At)
	}
	if d.below(3) == 0 {
		t.Outs = append(t.Outs, out(1+d.below(4)))
	}
	return t
}

// ledger is what comes of blocks that are made, one on the other.
type ledger struct {
	k      api.Book
	coins  []api.Coin
	waits  []api.Tx
	tip    int
	height int
}

// offer draws one and lets it wait, if it may.
func (x *ledger) offer(t *testing.T, d *drawer) {
	t.Helper()
	_, _, then, _, e := Sweep(x.k, x.coins, x.waits, x.height+1)
	if e != api.OK {
		t.Fatal(e)
	}
	next := d.tx(then)
	k, waits, e := Accept(x.k, x.coins, x.waits, next, x.height+1)
	if e == api.OK {
		x.k, x.waits = k, waits
		checkWaits(t, x)
	}
}

// checkWaits does all that waits by hand: nothing of it may fail, and Sweep must tell the same.
func checkWaits(t *testing.T, x *ledger) {
	t.Helper()
	l := x.coins
	for _, w := range x.waits {
		name := slices.Index(x.k.Texts, with(t, api.Book{}, txs(w)).Texts[0]) + 1
		var e api.Errno
		if l, _, e = unspent.Apply(l, w, name, x.height+1); e != api.OK {
			t.Fatalf("what waits can't be done: %v, %v", w, e)
		}
	}
	had, _ := unspent.Total(x.coins)
	has, _ := unspent.Total(l)
	k, stay, then, fees, e := Sweep(x.k, x.coins, x.waits, x.height+1)
	if !sameBook(k, x.k) || !sameTxs(stay, x.waits) || !unspent.Same(then, l) || fees != had-has || e != api.OK {
		t.Fatalf("Sweep of what waits: %v, %v, %v, %v, want %v, %v, %v", stay, then, fees, e, x.waits, l, had-has)
	}
}

// mine makes a block of what waits, and connects it; it tells how many others are in it, or that there is no room for its names any more.
func (x *ledger) mine(t *testing.T) (int, bool) {
	t.Helper()
	b, e := Make(x.k, x.coins, x.waits, x.tip, x.height, 1, 0, push(1))
	if e != api.OK {
		t.Fatal(x.waits, e)
	}
	k, name, _, e := block.Names(x.k, b)
	l, _, f := block.Connect(x.k, x.coins, b)
	if e == api.ErrFull && f == e {
		return 0, false
	}
	if e != api.OK || f != api.OK {
		t.Fatalf("Connect of what Make made: %v, %v, %v", b, e, f)
	}
	had, _ := unspent.Total(x.coins)
	made, _ := coin.Reward(b.Height)
	if has, _ := unspent.Total(l); has != had+made {
		t.Fatalf("%d becomes %d, where the reward takes all, and %d is made", had, has, made)
	}
	x.k, x.coins, x.tip, x.height = k, l, name, b.Height
	_, x.waits, _, _, e = Sweep(x.k, x.coins, x.waits, x.height+1)
	if e != api.OK {
		t.Fatal(e)
	}
	return len(b.Txs) - 1, true
}

func TestConnectTakesWhatMakeMakes(t *testing.T) {
	blocks, others, waited := 0, 0, 0
	for seed := range 60 {
		d, x := &drawer{seed: seed * 1009}, &ledger{}
		for {
			for range d.below(7) {
				x.offer(t, d)
			}
			count, ok := x.mine(t)
			if !ok {
				break
			}
			blocks, others, waited = blocks+1, others+count, waited+len(x.waits)
		}
	}
	// What is drawn must not be refused for the most part, or nothing is tested.
	if blocks < 1000 || others < 1000 || waited < 100 {
		t.Errorf("%d blocks, %d others in them, %d that waited on", blocks, others, waited)
	}
}

func TestConnectTakesWhatIsSweptFirst(t *testing.T) {
	// The book must have the names by which one spends what another one gives, as Connect names the reward first.
	l := txs(spend(1, 0, 9), spend(4, 0, 7))
	k, stay, _, _, e := Sweep(old(), some(), l, 4)
	if e != api.OK {
		t.Fatal(e)
	}
	b, e := Make(k, some(), stay, 0, 3, 1, 0, push(1))
	if e != api.OK {
		t.Fatal(e)
	}
	got, _, e := block.Connect(k, some(), b)
	if want := append(some()[1:], kept(5, 0, 7, 4), made(6, 67, 4)); !unspent.Same(got, want) || e != api.OK {
		t.Errorf("%v, %v, want %v", got, e, want)
	}
}

// P2 of the whole document, where lists are handed in and out.

// roomy are what all calls are handed, with spare room behind each list, in which a marker stands.
type roomy struct {
	k     api.Book
	coins []api.Coin
	l     []api.Tx
	t     api.Tx
	to    []api.Op
}

func roomyLock() []api.Op { return push(1, 77)[:1] }

func roomyTx(t api.Tx) api.Tx {
	for i := range t.Ins {
		t.Ins[i].Key = push(77)[:0]
	}
	for i := range t.Outs {
		t.Outs[i].Lock = roomyLock()
	}
	t.Ins = append(t.Ins, api.In{P: api.Point{Tx: 77}})[:len(t.Ins)]
	t.Outs = append(t.Outs, out(77))[:len(t.Outs)]
	return t
}

func handed() roomy {
	r := roomy{k: texts("a", "b", "c", "spare"), to: roomyLock(), t: roomyTx(spend(4, 0, 7))}
	r.k.Texts = r.k.Texts[:3]
	r.coins = append(some(), kept(77, 0, 77, 7))[:4]
	for i := range r.coins[:3] {
		r.coins[i].O.Lock = roomyLock()
	}
	r.l = txs(roomyTx(spend(1, 0, 9)), roomyTx(spend(9, 0, 1)), roomyTx(spend(1, 2, 8, 7)), paid(77, 77))[:3]
	return r
}

// whole is all of it, the spare room too.
func (r roomy) whole() roomy {
	w := roomy{k: texts(r.k.Texts[:4]...), to: r.to[:2], t: wholeTx(r.t)}
	for _, c := range r.coins[:5] {
		c.O.Lock = c.O.Lock[:cap(c.O.Lock)]
		w.coins = append(w.coins, c)
	}
	for _, t := range r.l[:4] {
		w.l = append(w.l, wholeTx(t))
	}
	return w
}

func wholeTx(t api.Tx) api.Tx {
	w := api.Tx{Height: t.Height}
	for _, in := range t.Ins[:cap(t.Ins)] {
		w.Ins = append(w.Ins, api.In{P: in.P, Key: in.Key[:cap(in.Key)]})
	}
	for _, o := range t.Outs[:cap(t.Outs)] {
		w.Outs = append(w.Outs, api.Out{Coin: o.Coin, Lock: o.Lock[:cap(o.Lock)]})
	}
	return w
}

// spoilTxs changes all memory that a list of transactions has.
func spoilTxs(l []api.Tx) {
	l = l[:cap(l)]
	for i := range l {
		ins, outs := l[i].Ins[:cap(l[i].Ins)], l[i].Outs[:cap(l[i].Outs)]
		for at := range ins {
			spoilOps(ins[at].Key)
			ins[at] = api.In{P: api.Point{Tx: 99}}
		}
		for at := range outs {
			spoilOps(outs[at].Lock)
			outs[at] = api.Out{Coin: 99}
		}
		l[i] = api.Tx{Height: 99}
	}
}

func spoilOps(l []api.Op) {
	l = l[:cap(l)]
	for i := range l {
		l[i] = api.Op{Kind: 99}
	}
}

func spoilCoins(l []api.Coin) {
	l = l[:cap(l)]
	for i := range l {
		spoilOps(l[i].O.Lock)
		l[i] = api.Coin{Height: 99}
	}
}

func spoilBook(k api.Book) {
	l := k.Texts[:cap(k.Texts)]
	for i := range l {
		l[i] = "changed"
	}
}

func TestCallsOnlyReadAndAnswerNewMemory(t *testing.T) {
	r := handed()
	check := func(what string, e api.Errno) {
		t.Helper()
		if e != api.OK || !reflect.DeepEqual(r.whole(), handed().whole()) {
			t.Fatalf("%s: %v, what was handed in is now %v", what, e, r.whole())
		}
	}
	k, stay, then, _, e := Sweep(r.k, r.coins, r.l, 4)
	check("Sweep changes it", e)
	spoilBook(k)
	spoilTxs(stay)
	spoilCoins(then)
	check("Sweep shares it", e)
	k, stay, e = Accept(r.k, r.coins, r.l, r.t, 4)
	check("Accept changes it", e)
	spoilBook(k)
	spoilTxs(stay)
	check("Accept shares it", e)
	b, e := Make(r.k, r.coins, r.l, 0, 3, 1, 0, r.to)
	check("Make changes it", e)
	spoilTxs(b.Txs)
	check("Make shares it", e)
	k, _, then, _, e = Sweep(r.k, r.coins, nil, 4)
	spoilBook(k)
	spoilCoins(then)
	check("Sweep of nothing shares it", e)
}

// checkApart tells of transactions that share memory: one is spoilt, and the others must be as they were.
func checkApart(t *testing.T, what string, answer func() []api.Tx) {
	t.Helper()
	for i := range answer() {
		l := answer()
		want := slices.Clone(l)
		for at, x := range l {
			want[at] = clone.Tx(x)
		}
		spoilTxs(l[i : i+1 : i+1])
		want[i] = api.Tx{Height: 99}
		if !sameTxs(l, want) {
			t.Errorf("%s: of one answer %d shares memory with others: %v, want %v", what, i, l, want)
		}
	}
}

func TestListsOfOneAnswerAreApart(t *testing.T) {
	// All that is handed in shares one lock, and one list of outs.
	lock := push(1)
	outs := []api.Out{{Coin: 9, Lock: lock}}
	waits := txs(spend(1, 0), spend(1, 2), spend(4, 0))
	c := some()
	for i := range waits {
		waits[i].Outs, c[i].O.Lock = outs, lock
	}
	checkApart(t, "Sweep", func() []api.Tx {
		_, stay, then, _, e := Sweep(old(), c, waits, 4)
		was := clone.Coins(then)
		for i := range then {
			spoilCoins(then[i : i+1 : i+1])
			if !unspent.Same(then[i+1:], was[i+1:]) {
				t.Errorf("the coin %d shares memory with others", i)
			}
		}
		if !sameTxs(stay, waits) || e != api.OK {
			t.Errorf("what stays shares memory with what is left: %v, %v", stay, e)
		}
		return stay
	})
	checkApart(t, "Accept", func() []api.Tx {
		_, stay, _ := Accept(old(), c, waits[:2], waits[2], 4)
		return stay
	})
	checkApart(t, "Make", func() []api.Tx {
		b, _ := Make(old(), c, waits, 0, 3, 1, 0, lock)
		return b.Txs
	})
	if _, stay, _, _, _ := Sweep(old(), c, waits, 4); len(stay) != 3 || !slices.Equal(lock, push(1)) {
		t.Errorf("what is handed in isn't as it was: %v, %v", stay, lock)
	}
}
