package node

import (
	"math"
	"slices"
	"testing"

	"cairn/api"
	"cairn/block"
	"cairn/tree"
)

// P10.3

func TestOffer(t *testing.T) {
	full, l := crowd(t)
	room := &site{k: full.k, n: full.n}
	room.n.Pool = l[:api.MaxPool-1]
	for _, w := range []struct {
		what string
		s    *site
		t    api.Tx
	}{
		{"the first one", some(t), spend(9, 0, 45)},
		{"without a fee", some(t), spend(9, 0, 50)},
		{"behind others", busy(t), spend(5, 0, 1)},
		{"on another one that waits", busy(t), spend(free+1, 0, 39)},
		{"a reward that is ripe at the next height", some(t), spend(5, 0, 70)},
		{"one that the book knows", &site{k: with(some(t).k, spend(3, 0, 9)), n: some(t).n}, spend(3, 0, 9)},
		{"as many as may wait", room, l[api.MaxPool-1]},
	} {
		k, n, e := Offer(w.s.k, w.s.n, w.t)
		want := api.Node{T: w.s.n.T, Tip: w.s.n.Tip, Pool: append(slices.Clone(w.s.n.Pool), w.t)}
		if !sameBook(k, with(w.s.k, w.t)) || !Same(n, want) || e != api.OK {
			t.Errorf("%s: %q, %v, %v, want %v", w.what, k, n, e, want)
		}
		(&site{k: k, n: n}).good(t, w.what, want.Tip)
	}
}

func TestOfferRefuses(t *testing.T) {
	s := busy(t)
	for _, w := range append([]wrongTx{
		{"the first that waits", waits()[0], api.ErrTwice},
		{"the last that waits", waits()[3], api.ErrTwice},
		{"a reward", paid(5, 1), api.ErrForm},
		{"what isn't there", spend(99, 0, 1), api.ErrSpent},
		{"what one that waits spends", spend(9, 0, 1), api.ErrSpent},
		{"what isn't there any more", spend(1, 0, 1), api.ErrSpent},
		{"what is there in another branch alone", spend(11, 0, 1), api.ErrSpent},
		{"one in a block", spend(6, 0, 50, 8), api.ErrSpent},
		{"not ripe at the next height", spend(8, 0, 1), api.ErrLate},
		{"a key that opens nothing", by(spend(5, 0, 1), 1), api.ErrKey},
		{"more than is spent", spend(5, 0, 71), api.ErrSum},
		{"more than is spent of one that waits", spend(free+1, 0, 41), api.ErrSum},
	}, wrongTxs()...) {
		unoffered(t, w.what, s.k, s.n, w.t, w.want)
	}
	unoffered(t, "anything at one that has nothing", s.k, api.Node{}, spend(1, 0, 1), api.ErrSpent)
}

func TestOfferRefusesWhereThereIsNoRoom(t *testing.T) {
	s, l := crowd(t)
	unoffered(t, "one more than may wait", s.k, s.n, spend(9, 2, 1), api.ErrFull)
	unoffered(t, "one that waits is ahead of too many", s.k, s.n, l[3], api.ErrTwice)
	unoffered(t, "what isn't there is ahead of too many", s.k, s.n, spend(99, 0, 1), api.ErrSpent)
	s = some(t)
	for len(s.k.Texts) < api.MaxBook {
		s.k.Texts = append(s.k.Texts, numbered(len(s.k.Texts)).Texts[len(s.k.Texts)-1])
	}
	unoffered(t, "no name is left", s.k, s.n, spend(9, 0, 45), api.ErrFull)
	unoffered(t, "a reward is ahead of no name", s.k, s.n, paid(5, 1), api.ErrForm)
	unoffered(t, "no name is ahead of what isn't there", s.k, s.n, spend(99, 0, 1), api.ErrFull)
}

func TestOfferIsForTheNextHeight(t *testing.T) {
	s := some(t)
	s.take(t, on(d, 5, 64, to(spend(9, 0, 50), asksHeight())))
	name := len(s.k.Texts) - 1
	for height := range 9 {
		x := by(spend(name, 0, 50), height)
		if height != 6 {
			unoffered(t, "another height", s.k, s.n, x, api.ErrKey)
		} else if _, n, e := Offer(s.k, s.n, x); len(n.Pool) != 1 || e != api.OK {
			t.Errorf("the next height: %v, %v", n, e)
		}
	}
}

func TestMake(t *testing.T) {
	full, l := crowd(t)
	w := waits()
	for _, x := range []struct {
		what   string
		s      *site
		reward int
		others []api.Tx
		stay   []api.Tx
	}{
		{"the first one", &site{}, 64, nil, nil},
		{"the first one, with a book", &site{k: texts("x", "y")}, 64, nil, nil},
		{"nothing waits", some(t), 64, nil, nil},
		{"one waits", some(t).offer(t, w[0]), 64 + 5, w[:1], nil},
		{"as many as a block has", some(t).offer(t, w[:3]...), 64 + 5 + 5, w[:3], nil},
		{"more than a block has", busy(t), 64 + 5 + 5, w[:3], w[3:]},
		{"as many as may wait", full, 64 + 0 + 1 + 2, l[:3], l[3:]},
	} {
		old, _ := tree.Block(x.s.n.T, x.s.n.Tip)
		height := old.Height + 1
		want := api.Block{Parent: x.s.n.Tip, Height: height, Work: 3, Nonce: 4}
		want.Txs = append(txs(to(paid(height, x.reward), asks(7))), x.others...)
		k, n, b, e := Make(x.s.k, x.s.n, 3, 4, asks(7))
		if !block.Same(b, want) || e != api.OK {
			t.Errorf("%s: %v, %v, want %v", x.what, b, e, want)
		}
		named, name, _, _ := block.Names(x.s.k, want)
		grown, _ := tree.Add(x.s.n.T, name, want)
		if then := (api.Node{T: grown, Tip: name, Pool: x.stay}); !Same(n, then) || !sameBook(k, named) {
			t.Errorf("%s: %q, %v, want %q, %v", x.what, k, n, named, then)
		}
		(&site{k: k, n: n}).good(t, x.what, name)
	}
}

func TestMakeIsTakeOfWhatIsMade(t *testing.T) {
	full, _ := crowd(t)
	for _, s := range []*site{{}, some(t), busy(t), full} {
		k, n, b, e := Make(s.k, s.n, api.MaxWork, api.MaxCoin, nil)
		out, then, name, f := Take(s.k, s.n, b)
		if !sameBook(k, out) || !Same(n, then) || n.Tip != name || e != api.OK || f != api.OK {
			t.Errorf("%q, %v, %v, want %q, %v, %v", k, n, e, out, then, f)
		}
		// What one node makes, another one that has the same blocks takes, whatever waits there.
		_, other, name, f := Take(k, api.Node{T: s.n.T, Tip: s.n.Tip}, b)
		if other.Tip != n.Tip || name != n.Tip || f != api.OK {
			t.Errorf("another one's tip is %v, %v, want %v", other.Tip, f, n.Tip)
		}
	}
}

func TestMakeUpToAsManyAsMayBe(t *testing.T) {
	s, sum := &site{}, 0
	for i := range api.MaxBlocks {
		k, n, b, e := Make(s.k, s.n, 1, i, push(1))
		if b.Height != i+1 || b.Parent != s.n.Tip || e != api.OK {
			t.Fatalf("block %d: %v, %v", i, b, e)
		}
		s.k, s.n, sum = k, n, sum+64>>(i/api.Halving)
	}
	s.good(t, "as many as may be", s.n.T.Names[api.MaxBlocks-1])
	if got, e := Balance(s.k, s.n, push(1)); got != 8*(64+32+16) || sum != got || e != api.OK {
		t.Errorf("the balance is %v, %v, want %v", got, e, sum)
	}
	unmade(t, "one more", s.k, s.n, 1, 0, push(1), api.ErrFull)
	unmade(t, "no work is ahead of one more", s.k, s.n, 0, 0, push(1), api.ErrRange)
}

func TestMakeRefusesWhatIsNoBlock(t *testing.T) {
	for _, s := range []*site{{}, some(t), busy(t), {k: numbered(api.MaxBook)}} {
		for _, w := range []struct {
			what        string
			work, nonce int
			to          []api.Op
			want        api.Errno
		}{
			{"no work", 0, 0, push(1), api.ErrRange},
			{"work below 0", math.MinInt, 0, push(1), api.ErrRange},
			{"too much work", api.MaxWork + 1, 0, push(1), api.ErrRange},
			{"a nonce below 0", 1, -1, push(1), api.ErrRange},
			{"a nonce that is too great", 1, api.MaxCoin + 1, push(1), api.ErrRange},
			{"a lock of too many", 1, 0, slices.Repeat(push(1), api.MaxOps+1), api.ErrMany},
			{"a lock of no kind", 1, 0, make([]api.Op, 1), api.ErrForm},
			{"a lock of far too much", 1, 0, push(1000001), api.ErrRange},
			{"no work is ahead of the lock", 0, 0, make([]api.Op, 1), api.ErrRange},
		} {
			unmade(t, w.what, s.k, s.n, w.work, w.nonce, w.to, w.want)
		}
	}
}

func TestMakeRefusesWhatTakeRefuses(t *testing.T) {
	unmade(t, "no name is left", numbered(api.MaxBook), api.Node{}, 1, 0, push(1), api.ErrFull)
	unmade(t, "no name for the block", numbered(api.MaxBook-1), api.Node{}, 1, 0, push(1), api.ErrFull)
	if k, n, _, e := Make(numbered(api.MaxBook-2), api.Node{}, 1, 0, push(1)); len(k.Texts) != api.MaxBook || n.Tip != api.MaxBook || e != api.OK {
		t.Errorf("the last names: %v, %v", n, e)
	}
	s, last := &site{}, 0
	for i := range 4 {
		x := on(last, i+1, 1)
		x.Txs[0].Outs = outs(1, 1, 1, 1, 1, 1)
		last = s.take(t, x)
	}
	s.offer(t, wide(1), wide(3), wide(5))
	unmade(t, "a text that is too long", s.k, s.n, 1, 0, push(1), api.ErrMany)
	unmade(t, "no work is ahead of a text that is too long", s.k, s.n, 0, 0, push(1), api.ErrRange)
	s.n.Pool = s.n.Pool[:2]
	if _, _, b, e := Make(s.k, s.n, 1, 0, push(1)); len(b.Txs) != 3 || e != api.OK {
		t.Errorf("two of them: %v, %v", b, e)
	}
}

// wide is a transaction of a long text, which spends all that another one gives to anyone.
func wide(name int) api.Tx {
	// What a key puts for the length of it must be gone ahead of the lock, which leaves one number.
	key := append(slices.Repeat(push(1000000), api.MaxOps/2), slices.Repeat([]api.Op{{Kind: api.Drop}}, api.MaxOps/2)...)
	var x api.Tx
	for at := range api.MaxOuts {
		x.Ins = append(x.Ins, api.In{P: api.Point{Tx: name, At: at}, Key: key})
		x.Outs = append(x.Outs, api.Out{Coin: 1, Lock: slices.Repeat(push(1000000), api.MaxOps)})
	}
	return x
}
