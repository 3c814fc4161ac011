package node

import (
	"math"
	"strings"
	"testing"

	"cairn/api"
	"cairn/block"
	"cairn/clone"
	"cairn/tree"
)

// P10.1

func TestCheck(t *testing.T) {
	full, _ := crowd(t)
	more := busy(t)
	more.k.Texts = append(more.k.Texts, "", "another one")
	// A book has what is in a block by any name, also where it came from another block.
	other := &site{k: with(texts("x"), paid(1, 64))}
	other.take(t, on(0, 1, 64))
	for what, s := range map[string]*site{
		"nothing":                        {},
		"nothing, with a book":           {k: texts("a", "")},
		"nothing, with a full book":      {k: numbered(api.MaxBook)},
		"some":                           some(t),
		"some, and something waits":      busy(t),
		"other texts in the book":        more,
		"another name":                   other,
		"as many blocks as may be":       tall(t),
		"as many as may wait":            full,
		"empty lists":                    {n: api.Node{T: api.Tree{Names: []int{}, Blocks: []api.Block{}}, Pool: []api.Tx{}}},
		"a book that has just what is":   {k: texts(some(t).k.Texts...), n: some(t).n},
		"what waits, at the next height": some(t).wait(spend(5, 0, 70)),
	} {
		if e := Check(s.k, s.n); e != api.OK {
			t.Errorf("%s: %v", what, e)
		}
	}
}

type wrongBook struct {
	what string
	k    api.Book
	want api.Errno
}

func wrongBooks() []wrongBook {
	return []wrongBook{
		{"a text twice", texts("a", "b", "a"), api.ErrTwice},
		{"too many texts", numbered(api.MaxBook + 1), api.ErrMany},
		{"a text that is too long", texts("a", strings.Repeat("x", api.MaxText+1)), api.ErrMany},
	}
}

type wrongTree struct {
	what string
	t    api.Tree
	want api.Errno
}

func wrongTrees(t *testing.T) []wrongTree {
	uneven, orphan, high, twice, noWork, noName := some(t).n.T, some(t).n.T, some(t).n.T, some(t).n.T, some(t).n.T, some(t).n.T
	uneven.Names = uneven.Names[1:]
	orphan.Blocks[6].Parent = 99
	high.Blocks[6].Height, high.Blocks[6].Txs[0].Height = 2, 2
	twice.Names[6] = a
	noWork.Blocks[6].Work = 0
	noName.Names[6] = api.MaxBook + 1
	return []wrongTree{
		{"a name is missing", uneven, api.ErrForm},
		{"a parent that isn't there", orphan, api.ErrWho},
		{"too high", high, api.ErrForm},
		{"a name twice", twice, api.ErrTwice},
		{"a block that is none", noWork, api.ErrRange},
		{"a name that is none", noName, api.ErrRange},
		{"too many", api.Tree{Names: make([]int, api.MaxBlocks+1), Blocks: make([]api.Block, api.MaxBlocks+1)}, api.ErrMany},
	}
}

// noTips are names that aren't the best of some.
func noTips() []int {
	return []int{0, a, b, c, f, h, g, 1, 9, free, api.MaxBook, api.MaxBook + 1, -1, -d, math.MinInt, math.MaxInt}
}

func TestAllTellTheBookFirst(t *testing.T) {
	for _, w := range wrongBooks() {
		refused(t, w.what, w.k, some(t).n, w.want)
		refused(t, w.what+", of nothing", w.k, api.Node{}, w.want)
		refused(t, w.what+" is ahead of the tip", w.k, api.Node{Tip: 1, Pool: make([]api.Tx, 99)}, w.want)
		for _, x := range wrongTrees(t) {
			refused(t, w.what+" is ahead of "+x.what, w.k, api.Node{T: x.t, Tip: d}, w.want)
		}
	}
}

func TestAllTellTheTreeNext(t *testing.T) {
	for _, w := range wrongTrees(t) {
		for _, k := range []api.Book{some(t).k, {}, numbered(api.MaxBook)} {
			refused(t, w.what, k, api.Node{T: w.t, Tip: d}, w.want)
			refused(t, w.what+" is ahead of the tip", k, api.Node{T: w.t, Tip: a}, w.want)
			refused(t, w.what+" is ahead of what waits", k, api.Node{T: w.t, Pool: make([]api.Tx, 99)}, w.want)
		}
	}
}

func TestAllTellTheTipNext(t *testing.T) {
	s := busy(t)
	for _, tip := range noTips() {
		s.n.Tip = tip
		for _, k := range []api.Book{s.k, {}, numbered(api.MaxBook)} {
			refused(t, "another tip", k, s.n, api.ErrForm)
			refused(t, "another tip is ahead of what waits", k, api.Node{T: s.n.T, Tip: tip, Pool: make([]api.Tx, 99)}, api.ErrForm)
		}
		if tip != 0 {
			refused(t, "a tip of nothing", s.k, api.Node{Tip: tip}, api.ErrForm)
		}
	}
	s = some(t)
	s.put(on(d, 5, 65), 0)
	refused(t, "another tip is ahead of what can't be connected", s.k, s.n, api.ErrForm)
}

func TestAllTellOfBlocksThatTheBookDoesNotKnow(t *testing.T) {
	s := busy(t)
	// The names 1 to 16 are those of all blocks and of what is in them.
	for name := range free - 1 {
		refused(t, "a text is missing", without(s.k, name+1), s.n, api.ErrWho)
		refused(t, "all from here on are missing", texts(s.k.Texts[:name]...), s.n, api.ErrWho)
	}
	refused(t, "no book", api.Book{}, s.n, api.ErrWho)
	refused(t, "a full book of others", numbered(api.MaxBook), s.n, api.ErrWho)
	moved := texts(append([]string{"another one"}, s.k.Texts...)...)
	refused(t, "other names", moved, s.n, api.ErrWho)
	last := s.n.T.Names[6:]
	for _, name := range []int{1, 3, 9, free, api.MaxBook} {
		last[0] = name
		refused(t, "a block by another name", s.k, s.n, api.ErrWho)
	}
	last[0] = g
	for what, change := range map[string]func(b *api.Block){
		"another nonce":  func(b *api.Block) { b.Nonce++ },
		"another reward": func(b *api.Block) { b.Txs[0].Outs[0].Coin-- },
		"another lock":   func(b *api.Block) { b.Txs[0].Outs[0].Lock = nil },
	} {
		n := clone.Node(s.n)
		change(&n.T.Blocks[6])
		refused(t, what, s.k, n, api.ErrWho)
	}
	// The same block stands there twice: the book has one name of it.
	n := clone.Node(s.n)
	n.T.Names, n.T.Blocks = append(n.T.Names, 1), append(n.T.Blocks, on(0, 1, 30))
	refused(t, "a block twice, by two names", s.k, n, api.ErrWho)
}

func TestABlockOfATextThatIsTooLongIsUnknown(t *testing.T) {
	s := some(t)
	s.put(tooLong(a, 2), 99)
	refused(t, "a block of a text that is too long", s.k, s.n, api.ErrWho)
}

// tooLong is a block whose transactions each have a text, but which has none itself.
func tooLong(parent, height int) api.Block { return on(parent, height, 1, wide(1), wide(3), wide(5)) }

// bads are blocks of which Connect has an error, each beside the others on what is there in some.
type bad struct {
	what string
	b    api.Block
	want api.Errno
}

func bads() []bad {
	return []bad{
		{"more than a reward", on(a, 2, 65), api.ErrSum},
		{"more than a reward, on the tip", on(d, 5, 65), api.ErrSum},
		{"more than a reward, on nothing", on(0, 1, 65), api.ErrSum},
		{"more than a reward and a fee", on(b, 3, 71, spend(1, 0, 58)), api.ErrSum},
		{"one that gives more than it spends", on(b, 3, 1, spend(1, 0, 65)), api.ErrSum},
		{"a reward that isn't ripe", on(a, 2, 1, spend(1, 0, 58)), api.ErrLate},
		{"a reward that isn't ripe, on the tip", on(d, 5, 1, spend(8, 0, 1)), api.ErrLate},
		{"what isn't there any more", on(c, 4, 1, spend(1, 0, 1)), api.ErrSpent},
		{"what is there in another branch alone", on(f, 3, 1, spend(3, 0, 1)), api.ErrSpent},
		{"what is there on the tip alone", on(h, 4, 1, spend(9, 0, 1)), api.ErrSpent},
		{"what nobody gave", on(0, 1, 1, spend(1, 0, 1)), api.ErrSpent},
		{"a key that opens nothing", on(b, 3, 1, by(spend(1, 0, 58), 1)), api.ErrKey},
		{"the same twice", on(b, 3, 1, spend(1, 0, 57), spend(1, 0, 57)), api.ErrSpent},
	}
}

// best makes the best of the tree the tip.
func (s *site) best(t *testing.T) {
	t.Helper()
	var e api.Errno
	if s.n.Tip, e = tree.Best(s.n.T); e != api.OK {
		t.Fatal(e)
	}
}

func TestAllTellOfBlocksThatCanNotBeConnected(t *testing.T) {
	for _, w := range bads() {
		s := some(t)
		s.put(w.b, 0)
		s.best(t)
		refused(t, w.what, s.k, s.n, w.want)
		s.wait(spend(9, 0, 45), spend(9, 0, 44))
		refused(t, w.what+" is ahead of what waits", s.k, s.n, w.want)
		s.n.Pool = make([]api.Tx, api.MaxPool+1)
		refused(t, w.what+" is ahead of too many that wait", s.k, s.n, w.want)
	}
}

func TestBlocksAreAskedOneByOne(t *testing.T) {
	for _, w := range bads() {
		s := some(t)
		name := s.put(w.b, 0)
		s.best(t)
		refused(t, "the book doesn't know it: "+w.what, without(s.k, name), s.n, api.ErrWho)
		refused(t, "the book doesn't know one ahead: "+w.what, without(s.k, g), s.n, api.ErrWho)
		behind := s.put(on(0, 1, 29), 0)
		refused(t, "the book doesn't know one behind: "+w.what, without(s.k, behind), s.n, w.want)
		s.put(on(0, 1, 1, spend(99, 0, 1)), 0)
		refused(t, "another one behind: "+w.what, s.k, s.n, w.want)
		s.put(on(name, w.b.Height+1, 65), 0)
		s.best(t)
		refused(t, "another one upon it: "+w.what, s.k, s.n, w.want)
	}
}

func TestAllTellOfWhatWaitsThatTheBookDoesNotKnow(t *testing.T) {
	s := busy(t)
	for i := range waits() {
		refused(t, "a text is missing", without(s.k, free+i), s.n, api.ErrWho)
		refused(t, "all from here on are missing", texts(s.k.Texts[:free+i-1]...), s.n, api.ErrWho)
	}
	for _, w := range wrongTxs() {
		s := busy(t).wait(w.t)
		refused(t, "what has no text: "+w.what, s.k, s.n, api.ErrWho)
		// A text of nothing isn't the text of what has none.
		s.k.Texts = append(s.k.Texts, "")
		refused(t, "what has no text, and an empty one is there: "+w.what, s.k, s.n, api.ErrWho)
	}
	s = busy(t)
	s.n.Pool = append(s.n.Pool, make([]api.Tx, api.MaxPool)...)
	refused(t, "what has no text is ahead of too many", s.k, s.n, api.ErrWho)
	s = some(t).wait(spend(99, 0, 1))
	s.n.Pool = append(s.n.Pool, spend(9, 0, 45))
	refused(t, "what the book doesn't know is ahead of what doesn't stay", s.k, s.n, api.ErrWho)
	refused(t, "what waits at one that has nothing", api.Book{}, api.Node{Pool: txs(spend(1, 0, 1))}, api.ErrWho)
}

type wrongTx struct {
	what string
	t    api.Tx
	want api.Errno
}

// wrongTxs are none that Print takes.
func wrongTxs() []wrongTx {
	high := spend(9, 0, 1)
	high.Height = 5
	twice := spend(9, 0, 1)
	twice.Ins = append(twice.Ins, twice.Ins[0])
	noKind := spend(9, 0, 1)
	noKind.Ins[0].Key = make([]api.Op, 1)
	return []wrongTx{
		{"nothing", api.Tx{}, api.ErrForm},
		{"no outs", spend(9, 0), api.ErrForm},
		{"too many outs", spend(9, 0, 1, 1, 1, 1, 1, 1, 1), api.ErrMany},
		{"a reward of no height", paid(0, 1), api.ErrRange},
		{"no reward, of a height", high, api.ErrRange},
		{"no such point", spend(0, 0, 1), api.ErrRange},
		{"a key of no kind", noKind, api.ErrForm},
		{"a lock of too many", to(spend(9, 0, 1), make([]api.Op, api.MaxOps+1)), api.ErrMany},
		{"an in twice", twice, api.ErrTwice},
		{"an out of 0", spend(9, 0, 0), api.ErrRange},
		{"an out of far too much", spend(9, 0, math.MaxInt), api.ErrRange},
		{"outs of too much", spend(9, 0, api.MaxCoin, 1), api.ErrFull},
	}
}

func TestAllTellOfTooManyThatWait(t *testing.T) {
	s, l := crowd(t)
	refused(t, "one more than may wait", with(s.k, spend(9, 2, 1)), api.Node{T: s.n.T, Tip: s.n.Tip, Pool: append(l, spend(9, 2, 1))}, api.ErrMany)
	s.n.Pool = append(s.n.Pool, s.n.Pool...)
	refused(t, "too many is ahead of what doesn't stay", s.k, s.n, api.ErrMany)
}

func TestAllTellOfWhatDoesNotStay(t *testing.T) {
	for _, w := range []struct {
		what string
		l    []api.Tx
	}{
		{"what isn't there", txs(spend(99, 0, 1))},
		{"what isn't there any more", txs(spend(1, 0, 1))},
		{"what is there in another branch alone", txs(spend(11, 0, 1))},
		{"what isn't ripe at the next height", txs(spend(8, 0, 1))},
		{"more than is spent", txs(spend(9, 0, 51))},
		{"a key that opens nothing", txs(by(spend(9, 0, 50), 1))},
		{"a reward", txs(paid(5, 1))},
		{"one in a block", txs(spend(6, 0, 50, 8))},
		{"the same twice", txs(spend(9, 0, 45), spend(9, 0, 45))},
		{"two spend the same", txs(spend(9, 0, 45), spend(9, 0, 44))},
		{"one ahead of what it spends", txs(spend(free+1, 0, 40), spend(9, 0, 45))},
		{"the last one", append(waits(), spend(9, 1, 6))},
	} {
		s := some(t).wait(w.l...)
		refused(t, w.what, s.k, s.n, api.ErrSpent)
	}
	s := (&site{}).wait(spend(1, 0, 1))
	refused(t, "what waits at one that has nothing", s.k, s.n, api.ErrSpent)
}

func TestWhatWaitsIsAskedForTheNextHeight(t *testing.T) {
	s := some(t)
	s.take(t, on(d, 5, 64, to(spend(9, 0, 50), asksHeight())))
	name := len(s.k.Texts) - 1
	for height := range 9 {
		x := &site{k: s.k, n: s.n}
		x.wait(by(spend(name, 0, 50), height))
		if height == 6 {
			x.good(t, "the next height is the key", x.n.Tip)
			continue
		}
		refused(t, "another height is the key", x.k, x.n, api.ErrSpent)
	}
}

// Some names must be the names of texts: of a block that is there, and that of all that is in it.
func TestTheBookOfANodeHasItsNames(t *testing.T) {
	s := busy(t)
	for i, name := range s.n.T.Names {
		if text, e := block.Print(s.n.T.Blocks[i]); s.k.Texts[name-1] != text || e != api.OK {
			t.Errorf("the name %d is that of %q, want %q", name, s.k.Texts[name-1], text)
		}
	}
	for i, x := range waits() {
		if named := with(api.Book{}, x); s.k.Texts[free+i-1] != named.Texts[0] {
			t.Errorf("the name %d is that of %q, want %q", free+i, s.k.Texts[free+i-1], named)
		}
	}
}
