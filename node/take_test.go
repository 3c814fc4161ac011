package node

import (
	"math"
	"reflect"
	"slices"
	"testing"

	"cairn/api"
	"cairn/block"
	"cairn/chain"
	"cairn/tree"
)

// P10.2

// taken is a block that some, where waits wait, takes.
type taken struct {
	what string
	b    api.Block
	name int
	tip  int
	stay []int // places in waits
}

func (w taken) check(t *testing.T) {
	t.Helper()
	s := busy(t)
	named, _, _, e := block.Names(s.k, w.b)
	grown, f := tree.Add(s.n.T, w.name, w.b)
	if e != api.OK || f != api.OK {
		t.Fatal(w.what, e, f)
	}
	k, n, name, e := Take(s.k, s.n, w.b)
	if name != w.name || e != api.OK {
		t.Errorf("%s: the name is %v, %v, want %v", w.what, name, e, w.name)
	}
	if !sameBook(k, named) || !Same(api.Node{T: n.T}, api.Node{T: grown}) {
		t.Errorf("%s: %q, %v, want %q, %v", w.what, k, n.T, named, grown)
	}
	var stay []api.Tx
	for _, i := range w.stay {
		stay = append(stay, waits()[i])
	}
	if !sameTxs(n.Pool, stay) {
		t.Errorf("%s: %v stay, want %v", w.what, n.Pool, stay)
	}
	(&site{k: k, n: n}).good(t, w.what, w.tip)
}

func TestTake(t *testing.T) {
	// Behind the names of some and of what waits come those of a reward and of its block.
	next := free + len(waits()) + 1
	all := []int{0, 1, 2, 3}
	l := waits()
	for _, w := range []taken{
		{"on the tip", on(d, 5, 1), next, next, all},
		{"all that there is, on the tip", on(d, 5, 64), next, next, all},
		{"one that waits", on(d, 5, 1, l[3]), next, next, []int{0, 1, 2}},
		{"one that others wait for", on(d, 5, 64+5, l[0]), next, next, []int{1, 2, 3}},
		{"one and what it waits for", on(d, 5, 64+5+5, l[0], l[1]), next, next, []int{2, 3}},
		{"as many as there may be", on(d, 5, 1, l[0], l[1], l[2]), next, next, []int{3}},
		{"what spends the same", on(d, 5, 1, spend(3, 0, 9)), next + 1, next + 1, []int{0, 1, 3}},
		{"what spends the same, and others wait for it", on(d, 5, 1, spend(9, 0, 9)), next + 1, next + 1, []int{2, 3}},
		{"on another one", on(c, 4, 1), next, d, all},
		{"on another one, as much work", hard(on(c, 4, 1), 1), next, d, all},
		{"on another one, more work", hard(on(c, 4, 1), 2), next, next, []int{2}},
		{"on another branch", hard(on(h, 4, 1), 9), next, next, nil},
		{"on the first one", hard(on(a, 2, 1), 1), next, d, all},
		{"on the first one, more work", hard(on(a, 2, 1), api.MaxWork), next, next, nil},
		{"on nothing", on(0, 1, 1), next, d, all},
		{"on nothing, as much work", hard(on(0, 1, 1), 4), next, d, all},
		{"on nothing, more work", hard(on(0, 1, 1), 5), next, next, nil},
		{"of a nonce", api.Block{Parent: d, Height: 5, Work: 1, Nonce: api.MaxCoin, Txs: txs(paid(5, 1))}, next, next, all},
		{"a reward that the book knows", hard(on(c, 4, 64), 1000), next - 1, next - 1, []int{2}},
	} {
		w.check(t)
	}
}

func TestTakeOfTheFirstOne(t *testing.T) {
	for _, k := range []api.Book{{}, texts("x", "y")} {
		name := len(k.Texts) + 2
		out, n, got, e := Take(k, api.Node{}, on(0, 1, 64))
		if got != name || !slices.Equal(n.T.Names, []int{name}) || len(out.Texts) != name || e != api.OK {
			t.Errorf("%v, %v, %v, %v, want the name %v", out, n, got, e, name)
		}
		(&site{k: out, n: n}).good(t, "the first one", name)
	}
}

func TestTheLowestNameIsTheBestOfEquals(t *testing.T) {
	low, high := on(0, 1, 5), on(0, 1, 6)
	k, first, _, _ := block.Names(api.Book{}, low)
	k, second, _, _ := block.Names(k, high)
	for _, order := range [][]api.Block{{low, high}, {high, low}} {
		s := &site{k: k}
		s.take(t, order[0])
		s.take(t, order[1])
		s.good(t, "two of one work", first)
		if !sameBook(s.k, k) || !slices.Contains(s.n.T.Names, second) {
			t.Errorf("the names that the book had aren't theirs: %q, %v", s.k, s.n)
		}
	}
}

func TestTakeHasNamesOfTheBook(t *testing.T) {
	// A book that is full has the names of these blocks already.
	s := some(t)
	for i := range api.MaxBook - len(s.k.Texts) {
		s.k.Texts = append(s.k.Texts, numbered(i + 1).Texts[i])
	}
	n := api.Node{}
	for i, x := range s.n.T.Blocks {
		k, then, name, e := Take(s.k, n, x)
		if name != s.n.T.Names[i] || !sameBook(k, s.k) || e != api.OK {
			t.Fatalf("%v, %v, want the name %v", name, e, s.n.T.Names[i])
		}
		n = then
	}
	if !Same(n, s.n) {
		t.Errorf("%v, want %v", n, s.n)
	}
}

func TestTakeSweepsForTheNextHeight(t *testing.T) {
	s := some(t)
	s.take(t, on(d, 5, 64, to(spend(9, 0, 50), asksHeight())))
	tip, name := s.n.Tip, len(s.k.Texts)-1
	x := by(spend(name, 0, 50), 6)
	s.offer(t, x)
	aside := *s
	aside.take(t, on(a, 2, 1))
	if aside.good(t, "one aside", tip); !sameTxs(aside.n.Pool, txs(x)) {
		t.Errorf("one aside: %v stay", aside.n.Pool)
	}
	s.take(t, on(tip, 6, 1))
	if s.good(t, "one on the tip", len(s.k.Texts)); len(s.n.Pool) != 0 {
		t.Errorf("one on the tip: %v stay", s.n.Pool)
	}
}

func TestTakeRefusesWhatNamesRefuses(t *testing.T) {
	s := busy(t)
	noReward := on(d, 5, 1)
	noReward.Txs = waits()[:1]
	nonce := on(d, 5, 1)
	nonce.Nonce = -1
	for _, w := range []bad{
		{"nothing", api.Block{}, api.ErrRange},
		{"a parent below 0", on(-1, 5, 1), api.ErrRange},
		{"a parent above all names", on(api.MaxBook+1, 5, 1), api.ErrRange},
		{"no height", on(0, 0, 1), api.ErrRange},
		{"far too high", on(d, math.MaxInt, 1), api.ErrRange},
		{"no work", hard(on(d, 5, 1), 0), api.ErrRange},
		{"too much work", hard(on(d, 5, 1), api.MaxWork+1), api.ErrRange},
		{"a nonce below 0", nonce, api.ErrRange},
		{"too many", on(d, 5, 1, waits()...), api.ErrMany},
		{"no transactions", api.Block{Parent: d, Height: 5, Work: 1}, api.ErrForm},
		{"no reward", noReward, api.ErrForm},
		{"two rewards", on(d, 5, 1, paid(5, 1)), api.ErrForm},
		{"a reward of nothing", on(d, 5, 0), api.ErrRange},
		{"a text that is too long", tooLong(d, 5), api.ErrMany},
		{"no such block is ahead of no such parent", hard(on(99, 5, 1), 0), api.ErrRange},
		{"a text that is too long is ahead of no such parent", tooLong(99, 5), api.ErrMany},
	} {
		untaken(t, w.what, s.k, s.n, w.b, w.want)
	}
	for _, w := range wrongTxs() {
		untaken(t, w.what, s.k, s.n, on(d, 5, 1, w.t), w.want)
		untaken(t, w.what+" is ahead of no such parent", s.k, s.n, on(99, 5, 1, w.t), w.want)
	}
}

func TestTakeRefusesWhereNoNameIsLeft(t *testing.T) {
	s := some(t)
	for len(s.k.Texts) < api.MaxBook-1 {
		s.k.Texts = append(s.k.Texts, numbered(len(s.k.Texts)).Texts[len(s.k.Texts)-1])
	}
	untaken(t, "no name for the block", s.k, s.n, on(d, 5, 1), api.ErrFull)
	untaken(t, "no name is ahead of no such parent", s.k, s.n, on(99, 5, 1), api.ErrFull)
	untaken(t, "no name is ahead of another height", s.k, s.n, on(d, 9, 1), api.ErrFull)
	untaken(t, "no name is ahead of what can't be connected", s.k, s.n, on(d, 5, 65), api.ErrFull)
	untaken(t, "no such block is ahead of no name", s.k, s.n, hard(on(d, 5, 1), 0), api.ErrRange)
	untaken(t, "one that is there has a name", s.k, s.n, on(0, 1, 30), api.ErrTwice)
	// Its reward has a name, so that the last one is left for the block.
	k, n, name, e := Take(s.k, s.n, on(g, 2, 20))
	if len(k.Texts) != api.MaxBook || name != api.MaxBook || e != api.OK {
		t.Errorf("the last name: %v, %v", name, e)
	}
	untaken(t, "no name for anything", k, n, on(name, 3, 1), api.ErrFull)
}

func TestTakeRefusesWhatAddRefuses(t *testing.T) {
	s := busy(t)
	for _, x := range s.n.T.Blocks {
		untaken(t, "one that is there", s.k, s.n, x, api.ErrTwice)
	}
	for _, parent := range []int{1, 3, 9, free, free + 5, 99, api.MaxBook} {
		untaken(t, "no such parent", s.k, s.n, on(parent, 5, 1), api.ErrWho)
		untaken(t, "no such parent is ahead of another height", s.k, s.n, on(parent, 9, 1), api.ErrWho)
		untaken(t, "no such parent is ahead of what can't be connected", s.k, s.n, on(parent, 5, 65), api.ErrWho)
	}
	for _, height := range []int{1, 4, 6, api.MaxHeight} {
		untaken(t, "another height", s.k, s.n, on(d, height, 1), api.ErrForm)
		untaken(t, "another height is ahead of what can't be connected", s.k, s.n, on(d, height, 65), api.ErrForm)
	}
	untaken(t, "on nothing, another height", s.k, s.n, on(0, 2, 1), api.ErrForm)
	untaken(t, "no parent at one that has nothing", s.k, api.Node{}, on(a, 2, 10), api.ErrWho)
}

func TestTakeRefusesMoreThanMayBe(t *testing.T) {
	s := tall(t)
	untaken(t, "one more", s.k, s.n, on(s.n.Tip, api.MaxBlocks+1, 1), api.ErrFull)
	untaken(t, "one more aside", s.k, s.n, on(0, 1, 1), api.ErrFull)
	untaken(t, "one more is ahead of what can't be connected", s.k, s.n, on(0, 1, 65), api.ErrFull)
	untaken(t, "one that is there is ahead of one more", s.k, s.n, s.n.T.Blocks[3], api.ErrTwice)
	untaken(t, "no such parent is ahead of one more", s.k, s.n, on(1, 2, 1), api.ErrWho)
	untaken(t, "another height is ahead of one more", s.k, s.n, on(0, 2, 1), api.ErrForm)
}

func TestTakeRefusesWhatCoinsRefuses(t *testing.T) {
	s := busy(t)
	for _, w := range bads() {
		untaken(t, w.what, s.k, s.n, w.b, w.want)
		untaken(t, "much work: "+w.what, s.k, s.n, hard(w.b, api.MaxWork), w.want)
	}
	// What isn't there is told ahead of the reward, which is done last.
	untaken(t, "two wrong ones", s.k, s.n, on(d, 5, 65, spend(99, 0, 1)), api.ErrSpent)
	// It stands on what waits there, and that isn't in a block.
	untaken(t, "what another one that waits gives", s.k, s.n, on(d, 5, 1, waits()[1]), api.ErrSpent)
}

// No tree has room for a block of the greatest height, so the desk itself is asked.
func TestBehindTheGreatestHeightAllWaitsOn(t *testing.T) {
	lay := func() *desk {
		s := busy(t)
		x, e := open(s.k, s.n)
		if e != api.OK {
			t.Fatal(e)
		}
		x.behind[d] = nil
		return x
	}
	x := lay()
	if e := x.sweep(api.MaxHeight + 1); !sameTxs(x.n.Pool, waits()) || !sameBook(x.k, busy(t).k) || e != api.OK {
		t.Errorf("behind it: %v, %v", x.n.Pool, e)
	}
	x = lay()
	if e := x.sweep(api.MaxHeight); len(x.n.Pool) != 0 || e != api.OK {
		t.Errorf("at it: %v, %v", x.n.Pool, e)
	}
}

// The coins that a desk has of each block are those that chapter 8 tells.
func TestTheCoinsOfADeskAreThoseOfChain(t *testing.T) {
	full, _ := crowd(t)
	for _, s := range []*site{{}, some(t), busy(t), tall(t), full} {
		x, e := open(s.k, s.n)
		if e != api.OK {
			t.Fatal(e)
		}
		for _, name := range append(s.n.T.Names, 0) {
			want, e := chain.Coins(s.k, s.n.T, name)
			if got := x.behind[name]; !reflect.DeepEqual(got, want) || e != api.OK {
				t.Errorf("of %d: %v, want %v, %v", name, got, want, e)
			}
		}
	}
}
