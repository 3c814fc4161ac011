package world

import (
	"slices"
	"testing"

	"cairn/api"
	"cairn/clone"
	"cairn/coin"
	"cairn/node"
	"cairn/tree"
	"cairn/unspent"
)

// What the chapter says of Do, kind by kind, of a world that is one; what is handed in may be changed.

func saidDo(w api.World, x api.Happening) (api.World, api.Errno) {
	switch x.Kind {
	case api.Mine, api.Submit, api.Forget, api.Share, api.Fetch:
		if x.Node < 0 || x.Node >= len(w.Nodes) {
			return api.World{}, api.ErrWho
		}
		if x.Kind == api.Share || x.Kind == api.Fetch {
			return saidSend(w, x)
		}
		return saidAct(w, x)
	case api.Arrive, api.Lose, api.Double:
		if x.K < 0 || x.K >= len(w.Net) {
			return api.World{}, api.ErrWho
		}
		return saidMessage(w, x)
	}
	return api.World{}, api.ErrForm
}

func saidAct(w api.World, x api.Happening) (api.World, api.Errno) {
	n := &w.Nodes[x.Node]
	var e api.Errno
	var m api.Message
	switch x.Kind {
	case api.Mine:
		m.Kind = api.Tell
		w.Book, *n, m.B, e = node.Make(w.Book, *n, x.Work, x.K, asks(x.N))
	case api.Submit:
		m.Kind, m.T = api.Pay, x.T
		w.Book, *n, e = node.Offer(w.Book, *n, x.T)
	case api.Forget:
		n.Pool = nil
		return w, api.OK
	}
	if e != api.OK {
		return api.World{}, e
	}
	for to := range w.Nodes {
		m.From, m.To = x.Node, to
		if to != x.Node && len(w.Net) < api.MaxNet {
			w.Net = append(w.Net, m)
		}
	}
	return w, api.OK
}

func saidSend(w api.World, x api.Happening) (api.World, api.Errno) {
	if x.To < 0 || x.To >= len(w.Nodes) {
		return api.World{}, api.ErrWho
	}
	if x.To == x.Node {
		return api.World{}, api.ErrTwice
	}
	if len(w.Net) == api.MaxNet {
		return api.World{}, api.ErrFull
	}
	if x.Kind == api.Fetch {
		if x.K < 1 || x.K > api.MaxBook {
			return api.World{}, api.ErrRange
		}
		w.Net = append(w.Net, ask(x.Node, x.To, x.K))
		return w, api.OK
	}
	best, e := tree.Block(w.Nodes[x.Node].T, w.Nodes[x.Node].Tip)
	if e != api.OK {
		return api.World{}, e
	}
	w.Net = append(w.Net, tell(x.Node, x.To, best))
	return w, api.OK
}

func saidMessage(w api.World, x api.Happening) (api.World, api.Errno) {
	m := w.Net[x.K]
	if x.Kind == api.Double {
		if len(w.Net) == api.MaxNet {
			return api.World{}, api.ErrFull
		}
		w.Net = append(w.Net, m)
		return w, api.OK
	}
	w.Net = slices.Delete(w.Net, x.K, x.K+1)
	if x.Kind == api.Lose {
		return w, api.OK
	}
	switch m.Kind {
	case api.Tell:
		k, n, _, e := saidTake(w, m.To, m.B)
		if e == api.OK {
			w.Book, w.Nodes[m.To] = k, n
		}
		if e == api.ErrWho {
			w.Net = append(w.Net, ask(m.To, m.From, m.B.Parent))
		}
	case api.Ask:
		if x, e := tree.Block(w.Nodes[m.To].T, m.Name); e == api.OK {
			w.Net = append(w.Net, tell(m.To, m.From, x))
		}
	case api.Pay:
		if k, n, e := node.Offer(w.Book, w.Nodes[m.To], m.T); e == api.OK {
			w.Book, w.Nodes[m.To] = k, n
		}
	}
	return w, api.OK
}

func saidTake(w api.World, i int, b api.Block) (api.Book, api.Node, int, api.Errno) {
	return node.Take(w.Book, w.Nodes[i], b)
}

// drawer draws numbers, the same ones of the same seed.
type drawer struct{ seed int }

func (r *drawer) below(n int) int {
	r.seed = (r.seed*7919 + 104729) % 1000003
	return r.seed % n
}

// happening draws what mostly can happen in a world.
func (r *drawer) happening(w api.World) api.Happening {
	i, k := r.below(len(w.Nodes)), r.below(len(w.Net)+1)
	switch r.below(24) {
	case 0, 1, 2, 3:
		return mine(i, 1+r.below(3), r.below(2), r.below(3))
	case 4, 5, 6, 7:
		return submit(i, r.tx(w, i))
	case 8:
		return lose(k)
	case 9, 10:
		return double(k)
	case 11, 12:
		return share(i, r.below(len(w.Nodes)))
	case 13, 14:
		return fetch(i, r.below(len(w.Nodes)), r.below(len(w.Book.Texts)+2))
	case 15:
		if r.below(3) == 0 {
			return forget(i)
		}
		return api.Happening{Kind: r.below(11) - 1, Node: r.below(6) - 1, To: r.below(6) - 1, K: r.below(30) - 1, Work: r.below(9)}
	}
	return arrive(k)
}

// tx draws one that mostly spends what a node has, at the height that comes.
func (r *drawer) tx(w api.World, i int) api.Tx {
	coins, e := node.Coins(w.Book, w.Nodes[i])
	if e != api.OK || len(coins) == 0 {
		return spend(1+r.below(9), 0, 1)
	}
	c := coins[r.below(len(coins))]
	x := spend(c.P.Tx, c.O.Lock[0].N, 1+r.below(c.O.Coin+1))
	if len(c.O.Lock) == 1 {
		x.Ins[0].Key = nil
	}
	return x
}

// play is a script that is drawn, and what came of it.
type play struct {
	w      api.World
	script []api.Happening
	said   []api.Errno
	counts map[string]int // how often something was seen
}

// step lets one more thing happen, and holds it against what the chapter says.
func (p *play) step(t *testing.T, x api.Happening) {
	t.Helper()
	then, e := Do(p.w, x)
	want, f := saidDo(clone.World(p.w), x)
	if !sameWorld(then, want) || e != f {
		t.Fatalf("%v: %v, %v, want %v, %v", x, then, e, want, f)
	}
	p.script, p.said = append(p.script, x), append(p.said, e)
	p.count(x, e)
	if e == api.OK {
		p.w = then
	}
	if e := Check(p.w); e != api.OK {
		t.Fatalf("behind %v Check says %v", x, e)
	}
}

func (p *play) count(x api.Happening, e api.Errno) {
	names := [...]string{"Mine", "Submit", "Arrive", "Lose", "Double", "Share", "Forget", "Fetch"}
	if x.Kind < api.Mine || x.Kind > api.Fetch {
		p.counts["none"]++
	} else if e != api.OK {
		p.counts[names[x.Kind-1]+" fails"]++
	} else {
		p.counts[names[x.Kind-1]]++
	}
}

// P11.4

// honest: nobody has more than all rewards.
func (p *play) honest(t *testing.T, w api.World) {
	t.Helper()
	for _, n := range w.Nodes {
		path, _ := tree.Path(n.T, n.Tip)
		all, _ := coin.Supply(len(path))
		coins, _ := node.Coins(w.Book, n)
		if sum, e := unspent.Total(coins); sum > all || e != api.OK {
			t.Fatalf("%d are there, %v, where no more than %d were made", sum, e, all)
		}
		for lock := range 3 {
			if sum, e := node.Balance(w.Book, n, asks(lock)); sum > all || e != api.OK {
				t.Fatalf("one has %d, %v, where no more than %d were made", sum, e, all)
			}
		}
	}
}

// agree: who has the same blocks has the same coins.
func (p *play) agree(t *testing.T, w api.World) {
	t.Helper()
	for i, x := range w.Nodes {
		for _, y := range w.Nodes[:i] {
			if !slices.Equal(slices.Sorted(slices.Values(x.T.Names)), slices.Sorted(slices.Values(y.T.Names))) {
				continue
			}
			l, e := node.Coins(w.Book, x)
			m, f := node.Coins(w.Book, y)
			if x.Tip != y.Tip || !unspent.Same(l, m) || e != api.OK || f != api.OK {
				t.Fatalf("%v, %v, %v and %v, %v, %v", x.Tip, l, e, y.Tip, m, f)
			}
			if p.counts["agree"]++; !slices.Equal(x.T.Names, y.T.Names) {
				p.counts["agree, in another order"]++
			}
		}
	}
}

// settles: settled nodes have the best block of all.
func (p *play) settles(t *testing.T) {
	t.Helper()
	v, e := Settle(p.w)
	if count := p.blocks(); count > api.MaxBlocks {
		p.counts["no room to settle"]++
		if !isNothing(v) || e != api.ErrFull {
			t.Fatalf("too many blocks: %v, %v", v, e)
		}
		return
	}
	best, most := saidBest(p.w)
	for _, n := range v.Nodes {
		if work, e := tree.Work(n.T, n.Tip); n.Tip != best || work != most || e != api.OK || len(n.T.Names) != p.blocks() {
			t.Fatalf("%v, %v, %v, want %v, %v", n, work, e, best, most)
		}
	}
	if e != api.OK || len(v.Nodes) != len(p.w.Nodes) || Check(v) != api.OK || len(v.Net) != 0 {
		t.Fatalf("settled: %v, %v", v, e)
	}
	for _, n := range p.w.Nodes {
		if n.Tip != best {
			p.counts["settled to another one"]++
		}
	}
	p.agree(t, v)
	p.honest(t, v)
}

// spread lets all nodes be told all blocks, each in an order of its own, and late ones once more.
func (p *play) spread(t *testing.T, r *drawer) {
	t.Helper()
	for to := range p.w.Nodes {
		var l []api.Message
		for from, n := range p.w.Nodes {
			for _, x := range n.T.Blocks {
				if from != to {
					l = append(l, tell(from, to, x))
				}
			}
		}
		for range api.MaxBlocks {
			for at := range l {
				other := r.below(at + 1)
				l[at], l[other] = l[other], l[at]
			}
			for _, m := range l {
				p.w.Net = net(m)
				p.w = after(t, p.w, arrive(0))
			}
			if len(p.w.Nodes[to].T.Names) == min(p.blocks(), api.MaxBlocks) {
				break
			}
		}
	}
}

// blocks tells how many there are, at all nodes together.
func (p *play) blocks() int {
	var names []int
	for _, n := range p.w.Nodes {
		names = append(names, n.T.Names...)
	}
	slices.Sort(names)
	return len(slices.Compact(names))
}

func TestWorldsAgree(t *testing.T) {
	counts := map[string]int{}
	for seed := range 60 {
		r, p := &drawer{seed: seed * 1009}, &play{w: fresh(t, 1+(seed+3)%api.MaxNodes), counts: counts}
		for i := range api.MaxScript {
			p.step(t, r.happening(p.w))
			if p.honest(t, p.w); i%6 == 0 {
				p.agree(t, p.w)
				p.settles(t)
			}
		}
		p.agree(t, p.w)
		p.settles(t)
		w, said, e := Run(len(p.w.Nodes), p.script)
		if !sameWorld(w, p.w) || !slices.Equal(said, p.said) || e != api.OK {
			t.Fatalf("Run: %v, %v, %v, want %v, %v", w, said, e, p.w, p.said)
		}
		if seed%4 == 0 {
			p.spread(t, r)
			p.agree(t, p.w)
			p.honest(t, p.w)
			p.settles(t)
		}
	}
	// What is drawn must not be refused for the most part, or nothing is tested.
	for what, least := range map[string]int{
		"Mine": 400, "Submit": 200, "Submit fails": 100, "Arrive": 600, "Arrive fails": 40, "Lose": 60, "Double": 100, "Double fails": 20,
		"Share": 60, "Share fails": 60, "Forget": 20, "Fetch": 60, "Fetch fails": 40, "none": 5,
		"agree": 200, "agree, in another order": 60, "settled to another one": 200,
	} {
		if counts[what] < least {
			t.Errorf("%s: %d times, want %d", what, counts[what], least)
		}
	}
}

func TestLateAndTwiceAndInAnotherOrder(t *testing.T) {
	w := after(t, fresh(t, 2), mine(0, 1, 0, 7), mine(0, 1, 0, 7), mine(0, 1, 0, 7))
	w = after(t, w, submit(0, spend(rewardA, 7, 60)), mine(0, 1, 0, 7))
	// All that is on its way comes the other way round, and twice. What comes ahead of what it stands on is lost, so that the best one is told once more.
	for range 99 {
		if len(w.Net) == 0 {
			w = after(t, w, share(0, 1))
		}
		last := len(w.Net) - 1
		w = after(t, w, double(last), arrive(last+1), arrive(last))
		if len(w.Net) > api.MaxNet/2 {
			w = after(t, w, lose(0))
		}
	}
	if !node.Same(w.Nodes[0], w.Nodes[1]) || len(w.Nodes[1].T.Names) != 4 {
		t.Errorf("%v, want %v", w.Nodes[1], w.Nodes[0])
	}
}
