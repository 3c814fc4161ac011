package pool

import (
	"math"
	"slices"
	"strconv"
	"strings"
	"testing"

	"cairn/api"
	"cairn/book"
	"cairn/tx"
	"cairn/unspent"
)

func push(l ...int) []api.Op {
	var ops []api.Op
	for _, n := range l {
		ops = append(ops, api.Op{Kind: api.Push, N: n})
	}
	return ops
}

// asks is a lock that a key of this number opens.
func asks(n int) []api.Op { return append(push(n), api.Op{Kind: api.Same}) }

// out is one that anyone may spend.
func out(n int) api.Out { return api.Out{Coin: n, Lock: push(1)} }

func outs(l ...int) []api.Out {
	var all []api.Out
	for _, n := range l {
		all = append(all, out(n))
	}
	return all
}

func paid(height int, l ...int) api.Tx { return api.Tx{Height: height, Outs: outs(l...)} }

// spend is a transaction that spends the output of another one, without a key.
func spend(name, at int, l ...int) api.Tx {
	return api.Tx{Ins: []api.In{{P: api.Point{Tx: name, At: at}}}, Outs: outs(l...)}
}

// by is the transaction, with a key for the first that it spends.
func by(t api.Tx, key ...int) api.Tx {
	t.Ins[0].Key = push(key...)
	return t
}

// also is the transaction, which spends another one too.
func also(t api.Tx, name, at int) api.Tx {
	t.Ins = append(t.Ins, api.In{P: api.Point{Tx: name, At: at}})
	return t
}

func kept(name, at, n, height int) api.Coin {
	return api.Coin{P: api.Point{Tx: name, At: at}, O: out(n), Height: height}
}

func made(name, n, height int) api.Coin {
	c := kept(name, 0, n, height)
	c.Reward = true
	return c
}

func locked(name, n int, lock []api.Op) api.Coin {
	return api.Coin{P: api.Point{Tx: name}, O: api.Out{Coin: n, Lock: lock}, Height: 1}
}

// some are coins whose names are those of the texts in old: two for anyone, a reward of the height 3, one that asks for 7.
func some() []api.Coin {
	return []api.Coin{kept(1, 0, 10, 1), kept(1, 2, 20, 1), made(2, 64, 3), locked(3, 30, asks(7))}
}

func texts(l ...string) api.Book { return api.Book{Texts: l} }

func old() api.Book { return texts("a", "b", "c") }

func numbered(count int) api.Book {
	var k api.Book
	for i := range count {
		k.Texts = append(k.Texts, "text "+strconv.Itoa(i))
	}
	return k
}

func txs(l ...api.Tx) []api.Tx { return l }

func coins(l ...api.Coin) []api.Coin { return l }

func sameTxs(a, b []api.Tx) bool { return slices.EqualFunc(a, b, tx.Same) }

func sameBook(a, b api.Book) bool { return slices.Equal(a.Texts, b.Texts) }

// with is the book behind which the texts of some transactions stand.
func with(t *testing.T, k api.Book, l []api.Tx) api.Book {
	t.Helper()
	var printed []string
	for _, x := range l {
		s, e := tx.Print(x)
		if e != api.OK {
			t.Fatal(x, e)
		}
		printed = append(printed, s)
	}
	out, _, e := book.All(k, printed)
	if e != api.OK {
		t.Fatal(e)
	}
	return out
}

// crowd are coins of the name 1 and 2, and as many transactions as may wait, each of which spends one of them and leaves its place over.
func crowd() ([]api.Coin, []api.Tx) {
	var l []api.Coin
	var waits []api.Tx
	for i := range api.MaxPool {
		name, at := 1+i/api.MaxOuts, i%api.MaxOuts
		l = append(l, kept(name, at, 100, 1))
		waits = append(waits, spend(name, at, 100-i))
	}
	return append(l, kept(3, 0, 50, 1)), waits
}

type swept struct {
	what   string
	k      api.Book
	coins  []api.Coin
	l      []api.Tx
	height int
	stay   []int // places in l
	then   []api.Coin
	fees   int
}

func (w swept) check(t *testing.T) {
	t.Helper()
	var want []api.Tx
	for _, i := range w.stay {
		want = append(want, w.l[i])
	}
	k, stay, then, fees, e := Sweep(w.k, w.coins, w.l, w.height)
	if !sameTxs(stay, want) || !unspent.Same(then, w.then) || fees != w.fees || e != api.OK {
		t.Errorf("%s: %v, %v, %v, %v, want %v, %v, %v", w.what, stay, then, fees, e, want, w.then, w.fees)
	}
	if named := with(t, w.k, want); !sameBook(k, named) {
		t.Errorf("%s: the book is %q, want %q", w.what, k, named)
	}
}

// P9.1

func TestSweep(t *testing.T) {
	c := some()
	asksHeight := []api.Op{{Kind: api.Height}, {Kind: api.Same}}
	for _, w := range []swept{
		{"nothing waits", old(), c, nil, 4, nil, c, 0},
		{"nothing is there", api.Book{}, nil, nil, 1, nil, nil, 0},
		{"nothing is there to be spent", api.Book{}, nil, txs(spend(1, 0, 1)), 1, nil, nil, 0},
		{"no fee", old(), c, txs(spend(1, 0, 10)), 4, []int{0}, append(some()[1:], kept(4, 0, 10, 4)), 0},
		{"a fee", old(), c, txs(spend(1, 0, 3)), 4, []int{0}, append(some()[1:], kept(4, 0, 3, 4)), 7},
		{"fees of two", old(), c, txs(spend(1, 2, 5, 6), spend(1, 0, 3)), 4, []int{0, 1}, append(some()[2:], kept(4, 0, 5, 4), kept(4, 1, 6, 4), kept(5, 0, 3, 4)), 16},
		{"one spends two", old(), c, txs(also(spend(1, 0, 29), 1, 2)), 4, []int{0}, append(some()[2:], kept(4, 0, 29, 4)), 1},
		{"one on another one", old(), c, txs(spend(1, 0, 9), spend(4, 0, 7)), 4, []int{0, 1}, append(some()[1:], kept(5, 0, 7, 4)), 3},
		{"one on another one, which is behind it", old(), c, txs(spend(5, 0, 7), spend(1, 0, 9)), 4, []int{1}, append(some()[1:], kept(4, 0, 9, 4)), 1},
		{"one on another one, which doesn't stay", old(), c, txs(spend(9, 0, 9), spend(4, 0, 7)), 4, nil, c, 0},
		{"the same coin twice", old(), c, txs(spend(1, 0, 9), spend(1, 0, 8)), 4, []int{0}, append(some()[1:], kept(4, 0, 9, 4)), 1},
		{"the same one twice", old(), c, txs(spend(1, 0, 9), spend(1, 0, 9)), 4, []int{0}, append(some()[1:], kept(4, 0, 9, 4)), 1},
		{"a reward", old(), c, txs(paid(4, 1), spend(1, 0, 9), paid(1, 1)), 4, []int{1}, append(some()[1:], kept(4, 0, 9, 4)), 1},
		{"a reward isn't ripe", old(), c, txs(spend(2, 0, 64)), 4, nil, c, 0},
		{"a reward is ripe", old(), c, txs(spend(2, 0, 64)), 5, []int{0}, coins(c[0], c[1], c[3], kept(4, 0, 64, 5)), 0},
		{"a key opens", old(), c, txs(by(spend(3, 0, 30), 7)), 4, []int{0}, append(some()[:3], kept(4, 0, 30, 4)), 0},
		{"a key opens nothing", old(), c, txs(by(spend(3, 0, 30), 8), spend(3, 0, 30)), 4, nil, c, 0},
		{"a lock asks for the height", old(), coins(locked(1, 5, asksHeight)), txs(by(spend(1, 0, 4), 5), by(spend(1, 0, 4), 6)), 6, []int{1}, coins(kept(4, 0, 4, 6)), 1},
		{"more than is spent", old(), c, txs(spend(1, 0, 11), spend(1, 0, 10)), 4, []int{1}, append(some()[1:], kept(4, 0, 10, 4)), 0},
		{"more than is spent, where another one leaves it", old(), c, txs(spend(1, 2, 1), spend(1, 0, 11)), 4, []int{0}, coins(c[0], c[2], c[3], kept(4, 0, 1, 4)), 19},
		{"a coin of its name", texts("a"), c, txs(spend(1, 0, 9), spend(1, 2, 9)), 4, nil, c, 0},
		{"the least height", old(), c, txs(spend(1, 0, 10)), 1, []int{0}, append(some()[1:], kept(4, 0, 10, 1)), 0},
		{"the greatest height", old(), c, txs(spend(1, 0, 10)), api.MaxHeight, []int{0}, append(some()[1:], kept(4, 0, 10, api.MaxHeight)), 0},
		{"all that there is", old(), coins(kept(1, 0, api.MaxCoin, 1)), txs(spend(1, 0, 1)), 4, []int{0}, coins(kept(4, 0, 1, 4)), api.MaxCoin - 1},
	} {
		w.check(t)
	}
}

func TestSweepOfAsManyAsMayWait(t *testing.T) {
	l, waits := crowd()
	then, fees := coins(l[api.MaxPool]), 0
	places := make([]int, api.MaxPool)
	for i := range api.MaxPool {
		then, fees, places[i] = append(then, kept(4+i, 0, 100-i, 9)), fees+i, i
	}
	swept{"all stay", old(), l, waits, 9, places, then, fees}.check(t)
	swept{"none stays", old(), nil, waits, 9, nil, nil, 0}.check(t)
}

// known is the text of spend(1, 0, 9).
const known = "tx 0\nin 1 0:\nout 9:1\n"

func TestSweepNames(t *testing.T) {
	c := some()
	full := numbered(api.MaxBook)
	full.Texts[50] = known
	nearly := numbered(api.MaxBook - 1)
	for _, w := range []swept{
		{"a known one has its name", texts("a", "b", "c", known, "e"), c, txs(spend(1, 0, 9)), 4, []int{0}, append(some()[1:], kept(4, 0, 9, 4)), 1},
		{"a known one, by its name", texts("a", "b", "c", known, "e"), c, txs(spend(1, 2, 5), spend(1, 0, 9), spend(4, 0, 8)), 4, []int{0, 1, 2}, coins(c[2], c[3], kept(6, 0, 5, 4), kept(7, 0, 8, 4)), 15 + 2},
		{"what doesn't stay has no name", old(), c, txs(spend(9, 0, 1), spend(1, 0, 11), paid(4, 1), spend(1, 0, 8), spend(1, 0, 9), spend(4, 0, 7)), 4, []int{3, 5}, append(some()[1:], kept(5, 0, 7, 4)), 3},
		{"a full book", numbered(api.MaxBook), c, txs(spend(1, 0, 9)), 4, nil, c, 0},
		{"a full book that has one", full, c, txs(spend(1, 2, 9), spend(1, 0, 9), spend(51, 0, 9)), 4, []int{1}, append(some()[1:], kept(51, 0, 9, 4)), 1},
		{"one place is for the first that stays", nearly, c, txs(spend(1, 0, 11), spend(1, 2, 5), spend(1, 0, 9)), 4, []int{1}, coins(c[0], c[2], c[3], kept(api.MaxBook, 0, 5, 4)), 15},
		{"one that spends what it gives", texts("tx 0\nin 1 0:\nout 4:1\n"), coins(kept(1, 0, 10, 1)), txs(spend(1, 0, 4), spend(1, 0, 4)), 4, []int{0, 1}, coins(kept(1, 0, 4, 4)), 6},
	} {
		w.check(t)
	}
}

type wrongTx struct {
	what string
	t    api.Tx
	want api.Errno
}

// wrongTxs are none that Print takes.
func wrongTxs() []wrongTx {
	noKind := spend(1, 0, 1)
	noKind.Ins[0].Key = make([]api.Op, 1)
	tooMany := spend(1, 0, 1)
	tooMany.Outs[0].Lock = make([]api.Op, api.MaxOps+1)
	high := spend(1, 0, 1)
	high.Height = 4
	return []wrongTx{
		{"nothing", api.Tx{}, api.ErrForm},
		{"no outs", spend(1, 0), api.ErrForm},
		{"too many ins", api.Tx{Ins: make([]api.In, api.MaxIns+1), Outs: outs(1)}, api.ErrMany},
		{"too many outs", spend(1, 0, 1, 1, 1, 1, 1, 1, 1), api.ErrMany},
		{"a reward of no height", paid(0, 1), api.ErrRange},
		{"no reward, of a height", high, api.ErrRange},
		{"no such point", spend(0, 0, 1), api.ErrRange},
		{"a key of no kind", noKind, api.ErrForm},
		{"a lock of too many", tooMany, api.ErrMany},
		{"an in twice", also(spend(1, 0, 1), 1, 0), api.ErrTwice},
		{"an out of 0", spend(1, 0, 0), api.ErrRange},
		{"an out below 0", spend(1, 0, 5, math.MinInt), api.ErrRange},
		{"an out of far too much", spend(1, 0, math.MaxInt), api.ErrRange},
		{"outs of too much", spend(1, 0, api.MaxCoin, 1), api.ErrFull},
	}
}

func TestSweepOfWhatPrintRefuses(t *testing.T) {
	then := append(some()[1:], kept(4, 0, 9, 4))
	for _, w := range wrongTxs() {
		swept{w.what, old(), some(), txs(w.t), 4, nil, some(), 0}.check(t)
		swept{w.what + " among others", old(), some(), txs(w.t, spend(1, 0, 9), w.t), 4, []int{1}, then, 1}.check(t)
	}
}

type wrongBook struct {
	what string
	k    api.Book
	want api.Errno
}

func wrongBooks() []wrongBook {
	return []wrongBook{
		{"a text twice", texts("a", "b", "a"), api.ErrTwice},
		{"too many texts", numbered(api.MaxBook + 1), api.ErrMany},
		{"a text that is too long", texts("a", strings.Repeat("x", api.MaxText+1)), api.ErrMany},
	}
}

// wrongCoins are lists that are none, and what is wrong with each.
func wrongCoins() map[api.Errno][]api.Coin {
	return map[api.Errno][]api.Coin{
		api.ErrMany:  make([]api.Coin, api.MaxBook*api.MaxOuts+1),
		api.ErrRange: {kept(1, 0, 10, 1), kept(2, 0, 0, 1)},
		api.ErrForm:  {locked(1, 1, make([]api.Op, 1))},
		api.ErrTwice: {kept(1, 0, 10, 1), kept(1, 0, 10, 1)},
		api.ErrFull:  {kept(1, 0, api.MaxCoin, 1), kept(2, 0, 1, 1)},
	}
}

// noHeights are none at which anything is done.
func noHeights() []int {
	return []int{0, -1, api.MaxHeight + 1, 9999, math.MinInt, math.MaxInt}
}

func tooMany() []api.Tx { return make([]api.Tx, api.MaxPool+1) }

// refused holds a want against what all three calls say of the same book, coins, list and height: Sweep's error is theirs, whatever else is wrong.
func refused(t *testing.T, what string, k api.Book, c []api.Coin, l []api.Tx, height int, want api.Errno) {
	t.Helper()
	if out, stay, then, fees, e := Sweep(k, c, l, height); out.Texts != nil || stay != nil || then != nil || fees != 0 || e != want {
		t.Errorf("Sweep, %s: %v, %v, %v, %v, %v, want %v", what, out, stay, then, fees, e, want)
	}
	for _, x := range txs(spend(1, 0, 9), paid(4, 1), api.Tx{}) {
		unaccepted(t, what, k, c, l, x, height, want)
	}
	for _, n := range []int{1, 0} {
		unmade(t, what, k, c, l, [4]int{n - 1, height - 1, n, n - 1}, push(n), want)
		unmade(t, what, k, c, l, [4]int{n - 1, height - 1, n, n - 1}, make([]api.Op, 1), want)
	}
}

func TestAllTellTheBookFirst(t *testing.T) {
	for _, k := range wrongBooks() {
		for _, height := range append(noHeights(), 4) {
			refused(t, k.what, k.k, some(), nil, height, k.want)
			refused(t, k.what+" is ahead of too many", k.k, some(), tooMany(), height, k.want)
			for _, c := range wrongCoins() {
				refused(t, k.what+" is ahead of wrong coins", k.k, c, tooMany(), height, k.want)
			}
		}
	}
}

func TestAllTellCoinsNext(t *testing.T) {
	for want, c := range wrongCoins() {
		for _, height := range append(noHeights(), 4) {
			refused(t, "wrong coins", old(), c, nil, height, want)
			refused(t, "wrong coins are ahead of too many", numbered(api.MaxBook), c, tooMany(), height, want)
		}
	}
}

func TestAllTellHeightsNext(t *testing.T) {
	for _, height := range noHeights() {
		refused(t, "no height", old(), some(), txs(spend(1, 0, 9)), height, api.ErrRange)
		refused(t, "no height, of nothing", api.Book{}, nil, nil, height, api.ErrRange)
		refused(t, "no height is ahead of too many", old(), some(), tooMany(), height, api.ErrRange)
	}
}

func TestAllTellOfTooMany(t *testing.T) {
	l, waits := crowd()
	for _, height := range []int{1, 4, 60, api.MaxHeight} {
		refused(t, "too many", old(), l, append(waits, spend(3, 0, 1)), height, api.ErrMany)
		refused(t, "too many, none of which would stay", old(), l, tooMany(), height, api.ErrMany)
	}
}

// P9.2

func unaccepted(t *testing.T, what string, k api.Book, c []api.Coin, l []api.Tx, x api.Tx, height int, want api.Errno) {
	t.Helper()
	if out, stay, e := Accept(k, c, l, x, height); out.Texts != nil || stay != nil || e != want {
		t.Errorf("Accept, %s: %v, %v, %v, want %v", what, out, stay, e, want)
	}
}

func TestAccept(t *testing.T) {
	l, waits := crowd()
	stale := make([]api.Tx, api.MaxPool)
	copy(stale, waits[:api.MaxPool-1])
	full := numbered(api.MaxBook)
	full.Texts[50] = known
	for _, w := range []struct {
		what   string
		k      api.Book
		coins  []api.Coin
		l      []api.Tx
		t      api.Tx
		height int
		want   []api.Tx
	}{
		{"the first one", old(), some(), nil, spend(1, 0, 9), 4, txs(spend(1, 0, 9))},
		{"behind another one", old(), some(), txs(spend(1, 2, 9)), spend(1, 0, 9), 4, txs(spend(1, 2, 9), spend(1, 0, 9))},
		{"on another one", old(), some(), txs(spend(1, 0, 9)), spend(4, 0, 8), 4, txs(spend(1, 0, 9), spend(4, 0, 8))},
		{"what another one can't spend", old(), some(), txs(spend(1, 0, 11)), spend(1, 0, 9), 4, txs(spend(1, 0, 9))},
		{"what can't be done goes", old(), some(), txs(spend(9, 0, 1), paid(4, 1), spend(1, 2, 9), api.Tx{}), spend(1, 0, 9), 4, txs(spend(1, 2, 9), spend(1, 0, 9))},
		{"the same as one that doesn't stay", old(), some(), txs(spend(4, 0, 8), spend(1, 0, 9)), spend(4, 0, 8), 4, txs(spend(1, 0, 9), spend(4, 0, 8))},
		{"ripe", old(), some(), nil, spend(2, 0, 64), 5, txs(spend(2, 0, 64))},
		{"a key", old(), some(), nil, by(spend(3, 0, 30), 7), 4, txs(by(spend(3, 0, 30), 7))},
		{"as many as may wait", old(), l, waits[:api.MaxPool-1], waits[api.MaxPool-1], 4, waits},
		{"as many as may wait, of which one doesn't stay", old(), l, stale, spend(3, 0, 50), 4, append(slices.Clone(waits[:api.MaxPool-1]), spend(3, 0, 50))},
		{"a full book that has it", full, some(), nil, spend(1, 0, 9), 4, txs(spend(1, 0, 9))},
		{"the last name", numbered(api.MaxBook - 1), some(), txs(spend(1, 0, 11)), spend(1, 0, 9), 4, txs(spend(1, 0, 9))},
	} {
		k, stay, e := Accept(w.k, w.coins, w.l, w.t, w.height)
		if !sameTxs(stay, w.want) || !sameBook(k, with(t, w.k, w.want)) || e != api.OK {
			t.Errorf("%s: %q, %v, %v, want %v", w.what, k, stay, e, w.want)
		}
	}
}

func TestAcceptRefuses(t *testing.T) {
	ahead := txs(spend(1, 0, 9))
	for _, w := range []struct {
		what   string
		k      api.Book
		t      api.Tx
		height int
		want   api.Errno
	}{
		{"one that waits", old(), spend(1, 0, 9), 4, api.ErrTwice},
		{"a reward", old(), paid(4, 1), 4, api.ErrForm},
		{"a reward of another height", old(), paid(9, 1), 4, api.ErrForm},
		{"what isn't there", old(), spend(9, 0, 1), 4, api.ErrSpent},
		{"what one that waits spends", old(), spend(1, 0, 8), 4, api.ErrSpent},
		{"not ripe", old(), spend(2, 0, 1), 4, api.ErrLate},
		{"no key", old(), spend(3, 0, 1), 4, api.ErrKey},
		{"another key", old(), by(spend(3, 0, 1), 8), 4, api.ErrKey},
		{"more than is spent", old(), spend(1, 2, 21), 4, api.ErrSum},
		{"more than is spent of one that waits", old(), spend(4, 0, 10), 4, api.ErrSum},
		{"a coin of its name", texts("a", "b", "tx 0\nin 1 2:\nout 9:1\n"), spend(1, 2, 9), 4, api.ErrTwice},
		{"no name is left", numbered(api.MaxBook - 1), spend(1, 2, 9), 4, api.ErrFull},
		{"a reward is ahead of no name", numbered(api.MaxBook - 1), paid(4, 1), 4, api.ErrForm},
		{"no name is ahead of what isn't there", numbered(api.MaxBook - 1), spend(9, 0, 1), 4, api.ErrFull},
		{"one that waits is ahead of no name", numbered(api.MaxBook - 1), spend(1, 0, 9), 4, api.ErrTwice},
	} {
		unaccepted(t, w.what, w.k, some(), ahead, w.t, w.height, w.want)
	}
	for _, w := range wrongTxs() {
		unaccepted(t, w.what, old(), some(), ahead, w.t, 4, w.want)
		unaccepted(t, w.what+", and it waits", old(), some(), txs(w.t), w.t, 4, w.want)
		unaccepted(t, w.what+" is ahead of no name", numbered(api.MaxBook), some(), nil, w.t, 4, w.want)
	}
	unaccepted(t, "a reward that waits", old(), some(), txs(paid(4, 1)), paid(4, 1), 4, api.ErrForm)
	// It could be done once more, as it gives what it spends.
	unaccepted(t, "one that could be done twice", texts("tx 0\nin 1 0:\nout 4:1\n"), coins(kept(1, 0, 10, 1)), txs(spend(1, 0, 4)), spend(1, 0, 4), 4, api.ErrTwice)
}

func TestAcceptWhereAsManyAsMayStay(t *testing.T) {
	l, waits := crowd()
	for _, w := range append([]wrongTx{
		{"one more", spend(3, 0, 50), api.ErrFull},
		{"on another one", spend(4, 0, 1), api.ErrFull},
		{"one that waits", waits[7], api.ErrTwice},
		{"a reward", paid(4, 1), api.ErrForm},
		{"what isn't there", spend(99, 0, 1), api.ErrSpent},
		{"more than is spent", spend(3, 0, 51), api.ErrSum},
	}, wrongTxs()...) {
		unaccepted(t, "full, and "+w.what, old(), l, waits, w.t, 4, w.want)
	}
}

func TestAcceptMakesRoomWhereSomeGo(t *testing.T) {
	l, waits := crowd()
	k, stay, e := Accept(old(), l[1:], waits, spend(3, 0, 50), 4)
	want := append(slices.Clone(waits[1:]), spend(3, 0, 50))
	if !sameTxs(stay, want) || !sameBook(k, with(t, old(), want)) || e != api.OK {
		t.Errorf("the first one goes: %q, %v, %v", k, stay, e)
	}
}
