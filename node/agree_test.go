package node

import (
	"slices"
	"testing"

	"cairn/api"
	"cairn/block"
	"cairn/book"
	"cairn/chain"
	"cairn/clone"
	"cairn/coin"
	"cairn/pool"
	"cairn/tree"
	"cairn/tx"
	"cairn/unspent"
)

// What the chapter says, step by step, by the layers above alone.

func saidNameOf(k api.Book, text string) int { return slices.Index(k.Texts, text) + 1 }

func saidCheck(k api.Book, n api.Node) api.Errno {
	if e := book.Check(k); e != api.OK {
		return e
	}
	best, e := tree.Best(n.T)
	if e != api.OK {
		return e
	}
	if best != n.Tip {
		return api.ErrForm
	}
	for i, name := range n.T.Names {
		text, _ := block.Print(n.T.Blocks[i])
		if saidNameOf(k, text) != name {
			return api.ErrWho
		}
		for _, x := range n.T.Blocks[i].Txs {
			if text, _ := tx.Print(x); saidNameOf(k, text) == 0 {
				return api.ErrWho
			}
		}
		if _, e := chain.Coins(k, n.T, name); e != api.OK {
			return e
		}
	}
	return saidCheckPool(k, n)
}

func saidCheckPool(k api.Book, n api.Node) api.Errno {
	if len(n.Pool) == 0 {
		return api.OK
	}
	for _, x := range n.Pool {
		if text, e := tx.Print(x); e != api.OK || saidNameOf(k, text) == 0 {
			return api.ErrWho
		}
	}
	coins, _ := chain.Coins(k, n.T, n.Tip)
	_, stay, _, _, e := pool.Sweep(k, coins, n.Pool, saidHeight(n)+1)
	if e == api.OK && len(stay) != len(n.Pool) {
		return api.ErrSpent
	}
	return e
}

func saidHeight(n api.Node) int {
	path, _ := tree.Path(n.T, n.Tip)
	return len(path)
}

func saidTake(k api.Book, n api.Node, b api.Block) (api.Book, api.Node, int, api.Errno) {
	if e := saidCheck(k, n); e != api.OK {
		return api.Book{}, api.Node{}, 0, e
	}
	k, name, _, e := block.Names(k, b)
	if e != api.OK {
		return api.Book{}, api.Node{}, 0, e
	}
	if n.T, e = tree.Add(n.T, name, b); e != api.OK {
		return api.Book{}, api.Node{}, 0, e
	}
	if _, e := chain.Coins(k, n.T, name); e != api.OK {
		return api.Book{}, api.Node{}, 0, e
	}
	n.Tip, _ = tree.Best(n.T)
	coins, _ := chain.Coins(k, n.T, n.Tip)
	k, n.Pool, _, _, _ = pool.Sweep(k, coins, n.Pool, saidHeight(n)+1)
	return k, n, name, api.OK
}

func saidOffer(k api.Book, n api.Node, x api.Tx) (api.Book, api.Node, api.Errno) {
	if e := saidCheck(k, n); e != api.OK {
		return api.Book{}, api.Node{}, e
	}
	coins, _ := chain.Coins(k, n.T, n.Tip)
	k, waits, e := pool.Accept(k, coins, n.Pool, x, saidHeight(n)+1)
	if e != api.OK {
		return api.Book{}, api.Node{}, e
	}
	n.Pool = waits
	return k, n, api.OK
}

func saidMake(k api.Book, n api.Node, work, nonce int, to []api.Op) (api.Book, api.Node, api.Block, api.Errno) {
	if e := saidCheck(k, n); e != api.OK {
		return api.Book{}, api.Node{}, api.Block{}, e
	}
	coins, _ := chain.Coins(k, n.T, n.Tip)
	b, e := pool.Make(k, coins, n.Pool, n.Tip, saidHeight(n), work, nonce, to)
	if e != api.OK {
		return api.Book{}, api.Node{}, api.Block{}, e
	}
	k, n, _, e = saidTake(k, n, b)
	if e != api.OK {
		return api.Book{}, api.Node{}, api.Block{}, e
	}
	return k, n, b, api.OK
}

// drawer draws numbers, the same ones of the same seed.
type drawer struct{ seed int }

func (r *drawer) below(n int) int {
	r.seed = (r.seed*7919 + 104729) % 1000003
	return r.seed % n
}

// village has nodes that share one book, and all blocks that any of them made.
type village struct {
	k      api.Book
	nodes  [3]api.Node
	blocks []api.Block
	counts map[string]int // how often something went well
}

func (v *village) tell(t *testing.T, what string, i int, k api.Book, n api.Node, e api.Errno, said api.Book, then api.Node, want api.Errno) {
	t.Helper()
	if !sameBook(k, said) || !Same(n, then) || e != want {
		t.Fatalf("%s: %q, %v, %v, want %q, %v, %v", what, k, n, e, said, then, want)
	}
	if e != api.OK {
		v.counts[what+" fails"]++
		return
	}
	v.k, v.nodes[i] = k, n
	v.counts[what]++
	for _, x := range v.nodes {
		if e := Check(v.k, x); e != api.OK {
			t.Fatalf("behind %s Check says %v", what, e)
		}
	}
}

func (v *village) make(t *testing.T, r *drawer, i int) {
	t.Helper()
	work, nonce, lock := 1+r.below(3), r.below(2), [][]api.Op{nil, push(1), asks(7)}[r.below(3)]
	k, n, b, e := Make(v.k, v.nodes[i], work, nonce, lock)
	said, then, x, want := saidMake(v.k, v.nodes[i], work, nonce, lock)
	if !block.Same(b, x) {
		t.Fatalf("%v, want %v", b, x)
	}
	if v.tell(t, "Make", i, k, n, e, said, then, want); e == api.OK {
		v.counts["others in blocks"] += len(b.Txs) - 1
		// Two nodes may make the same one.
		if !has(v.blocks, b) {
			v.blocks = append(v.blocks, b)
		}
	}
}

func (v *village) take(t *testing.T, i int, b api.Block) {
	t.Helper()
	k, n, name, e := Take(v.k, v.nodes[i], b)
	said, then, known, want := saidTake(v.k, v.nodes[i], b)
	if name != known {
		t.Fatalf("the name is %v, want %v", name, known)
	}
	was := v.nodes[i]
	if v.tell(t, "Take", i, k, n, e, said, then, want); e != api.OK {
		return
	}
	if fork, _ := tree.Fork(n.T, was.Tip, n.Tip); fork != was.Tip {
		v.counts["from one branch to another"]++
	}
	if len(n.Pool) < len(was.Pool) {
		v.counts["some don't wait on"]++
	}
}

func (v *village) offer(t *testing.T, r *drawer, i int) {
	t.Helper()
	coins, _ := Coins(v.k, v.nodes[i])
	_, _, left, _, _ := pool.Sweep(v.k, coins, v.nodes[i].Pool, saidHeight(v.nodes[i])+1)
	x := spend(1+r.below(9), 0, 1)
	if len(left) > 0 {
		c := left[r.below(len(left))]
		x = by(spend(c.P.Tx, c.P.At, 1+r.below(c.O.Coin+1)), 7)
		if slices.Equal(c.O.Lock, push(1)) {
			x.Ins[0].Key = nil
		}
	}
	k, n, e := Offer(v.k, v.nodes[i], x)
	said, then, want := saidOffer(v.k, v.nodes[i], x)
	v.tell(t, "Offer", i, k, n, e, said, then, want)
}

// happen draws what some node does.
func (v *village) happen(t *testing.T, r *drawer) {
	t.Helper()
	i := r.below(len(v.nodes))
	switch r.below(5) {
	case 0:
		if len(v.blocks) < api.MaxBlocks-4 {
			v.make(t, r, i)
		}
	case 1, 2:
		v.offer(t, r, i)
	default:
		if len(v.blocks) > 0 {
			v.take(t, i, v.blocks[r.below(len(v.blocks))])
		}
	}
}

// settle lets each node have all blocks, each in an order of its own, as far as one block doesn't stand on another.
func (v *village) settle(t *testing.T, r *drawer) {
	t.Helper()
	for i := range v.nodes {
		order := slices.Clone(v.blocks)
		for at := range order {
			other := r.below(at + 1)
			order[at], order[other] = order[other], order[at]
		}
		for len(order) > 0 {
			count := len(order)
			order = slices.DeleteFunc(order, func(b api.Block) bool {
				v.take(t, i, b)
				return has(v.nodes[i].T.Blocks, b)
			})
			if len(order) == count {
				t.Fatalf("it has %v, and takes none of %v", v.nodes[i].T, order)
			}
		}
	}
}

func has(l []api.Block, b api.Block) bool {
	return slices.ContainsFunc(l, func(x api.Block) bool { return block.Same(x, b) })
}

// P10.5

// agree: who has the same blocks has the same best one, and the same coins.
func (v *village) agree(t *testing.T) {
	t.Helper()
	for i, x := range v.nodes {
		for _, y := range v.nodes[:i] {
			if !slices.Equal(slices.Sorted(slices.Values(x.T.Names)), slices.Sorted(slices.Values(y.T.Names))) {
				continue
			}
			l, e := Coins(v.k, x)
			m, f := Coins(v.k, y)
			if x.Tip != y.Tip || !unspent.Same(l, m) || e != api.OK || f != api.OK {
				t.Fatalf("%v, %v, %v and %v, %v, %v", x.Tip, l, e, y.Tip, m, f)
			}
			v.counts["agree"]++
			if !slices.Equal(x.T.Names, y.T.Names) {
				v.counts["agree, in another order"]++
			}
		}
		// Nothing is made but rewards.
		all, _ := coin.Supply(saidHeight(x))
		coins, _ := Coins(v.k, x)
		if sum, _ := unspent.Total(coins); sum > all {
			t.Fatalf("%d are there, where no more than %d were made", sum, all)
		}
	}
}

func TestNodesAgree(t *testing.T) {
	counts := map[string]int{}
	for seed := range 60 {
		r, v := &drawer{seed: seed * 1009}, &village{counts: counts}
		for range 60 {
			v.happen(t, r)
			v.agree(t)
		}
		v.settle(t, r)
		v.agree(t)
	}
	// What is drawn must not be refused for the most part, or nothing is tested.
	for what, least := range map[string]int{
		"Make": 400, "Take": 1000, "Take fails": 200, "Offer": 300, "Offer fails": 100, "others in blocks": 80,
		"from one branch to another": 60, "some don't wait on": 60, "agree": 500, "agree, in another order": 150,
	} {
		if counts[what] < least {
			t.Errorf("%s: %d times, want %d", what, counts[what], least)
		}
	}
}

// spoilt draws a node that is like n but for one thing, or for two, and a book likewise.
func (r *drawer) spoilt(k api.Book, n api.Node) (api.Book, api.Node) {
	k.Texts, n = slices.Clone(k.Texts), clone.Node(n)
	for range 1 + r.below(2) {
		r.spoil(&k, &n)
	}
	return k, n
}

func (r *drawer) spoil(k *api.Book, n *api.Node) {
	at, other := r.below(len(n.T.Names)), r.below(len(n.T.Blocks))
	x := &n.T.Blocks[at]
	switch r.below(14) {
	case 0:
		n.Tip = r.below(len(k.Texts) + 2)
	case 1:
		n.T.Names[at] = r.below(len(k.Texts) + 2)
	case 2:
		n.T.Names[at], n.T.Names[other] = n.T.Names[other], n.T.Names[at]
	case 3:
		n.T.Blocks[at], n.T.Blocks[other] = n.T.Blocks[other], n.T.Blocks[at]
	case 4:
		x.Nonce = r.below(4)
	case 5:
		x.Work = r.below(9)
	case 6:
		x.Parent = r.below(len(k.Texts) + 2)
	case 7:
		x.Txs[r.below(len(x.Txs))].Outs[0].Coin += r.below(9)
	case 8:
		x.Txs = append(x.Txs, spend(1+r.below(len(k.Texts)), 0, 1))
	case 9:
		k.Texts[r.below(len(k.Texts))] = []string{"", "x", k.Texts[0]}[r.below(3)]
	case 10:
		k.Texts = k.Texts[:len(k.Texts)-1]
	case 11:
		n.Pool = append(n.Pool, spend(1+r.below(len(k.Texts)), 0, r.below(9)))
	case 12:
		n.Pool = append(n.Pool, x.Txs[r.below(len(x.Txs))])
	case 13:
		n.Pool = append(n.Pool, n.Pool...)
	}
	// Else the book would hardly ever know what is changed, nor the tip be the best.
	if r.below(3) > 0 {
		r.mend(k, n)
	}
}

// mend gives the book the names of all, and makes the best one the tip.
func (r *drawer) mend(k *api.Book, n *api.Node) {
	*k = with(*k, n.Pool...)
	for i, x := range n.T.Blocks {
		named, name, _, e := block.Names(*k, x)
		if e == api.OK && i < len(n.T.Names) {
			*k, n.T.Names[i] = named, name
		}
	}
	if best, e := tree.Best(n.T); e == api.OK {
		n.Tip = best
	}
}

func TestCheckOfSpoiltNodes(t *testing.T) {
	counts := map[api.Errno]int{}
	for seed := range 40 {
		r, v := &drawer{seed: seed * 1013}, &village{counts: map[string]int{}}
		for range 40 {
			v.happen(t, r)
		}
		for _, n := range v.nodes {
			for range 40 {
				if len(n.T.Names) == 0 {
					continue
				}
				k, x := r.spoilt(v.k, n)
				want := saidCheck(k, x)
				if counts[want]++; want == api.OK {
					continue
				}
				refused(t, "spoilt", k, x, want)
			}
		}
	}
	for _, e := range []api.Errno{api.OK, api.ErrMany, api.ErrRange, api.ErrForm, api.ErrWho, api.ErrTwice, api.ErrSpent, api.ErrSum, api.ErrLate} {
		if counts[e] < 5 {
			t.Errorf("%v: %d times", e, counts[e])
		}
	}
}
