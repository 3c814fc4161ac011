package world

import (
	"math"
	"reflect"
	"slices"
	"strconv"
	"strings"
	"testing"

	"cairn/api"
	"cairn/block"
	"cairn/clone"
	"cairn/node"
	"cairn/tree"
	"cairn/tx"
)

func push(n int) []api.Op { return []api.Op{{Kind: api.Push, N: n}} }

// asks is a lock that a key of this number opens, as those of blocks that are mined.
func asks(n int) []api.Op { return append(push(n), api.Op{Kind: api.Same}) }

// spend is a transaction that spends the first output of another one, by a key; anyone may spend what it gives.
func spend(name, key, n int) api.Tx {
	return api.Tx{
		Ins:  []api.In{{P: api.Point{Tx: name}, Key: push(key)}},
		Outs: []api.Out{{Coin: n, Lock: push(1)}},
	}
}

// on is a block on another one, with a reward of so much, and others behind it.
func on(parent, height, n int, others ...api.Tx) api.Block {
	reward := api.Tx{Height: height, Outs: []api.Out{{Coin: n, Lock: asks(7)}}}
	return api.Block{Parent: parent, Height: height, Work: 1, Txs: append([]api.Tx{reward}, others...)}
}

func tell(from, to int, b api.Block) api.Message {
	return api.Message{Kind: api.Tell, From: from, To: to, B: b}
}

func ask(from, to, name int) api.Message {
	return api.Message{Kind: api.Ask, From: from, To: to, Name: name}
}

func pay(from, to int, x api.Tx) api.Message {
	return api.Message{Kind: api.Pay, From: from, To: to, T: x}
}

func net(l ...api.Message) []api.Message { return l }

func mine(i, work, nonce, n int) api.Happening {
	return api.Happening{Kind: api.Mine, Node: i, Work: work, K: nonce, N: n}
}

func submit(i int, x api.Tx) api.Happening { return api.Happening{Kind: api.Submit, Node: i, T: x} }

func forget(i int) api.Happening { return api.Happening{Kind: api.Forget, Node: i} }

func share(i, to int) api.Happening { return api.Happening{Kind: api.Share, Node: i, To: to} }

func fetch(i, to, name int) api.Happening {
	return api.Happening{Kind: api.Fetch, Node: i, To: to, K: name}
}

func arrive(k int) api.Happening { return api.Happening{Kind: api.Arrive, K: k} }

func lose(k int) api.Happening { return api.Happening{Kind: api.Lose, K: k} }

func double(k int) api.Happening { return api.Happening{Kind: api.Double, K: k} }

func sameMessage(a, b api.Message) bool {
	return a.Kind == b.Kind && a.From == b.From && a.To == b.To && a.Name == b.Name && block.Same(a.B, b.B) && tx.Same(a.T, b.T)
}

func sameWorld(a, b api.World) bool {
	return slices.Equal(a.Book.Texts, b.Book.Texts) && slices.EqualFunc(a.Nodes, b.Nodes, node.Same) && slices.EqualFunc(a.Net, b.Net, sameMessage)
}

func isNothing(w api.World) bool { return reflect.DeepEqual(w, api.World{}) }

// after is the world behind some happenings, which must all go well.
func after(t *testing.T, w api.World, l ...api.Happening) api.World {
	t.Helper()
	for _, x := range l {
		then, e := Do(w, x)
		if e != api.OK {
			t.Fatal(x, e)
		}
		w = then
	}
	return w
}

func fresh(t *testing.T, n int) api.World {
	t.Helper()
	w, e := New(n)
	if e != api.OK {
		t.Fatal(n, e)
	}
	return w
}

// The names of some: the blocks a and b, which stands on a, the rewards that they have, and the first name that is free.
const (
	rewardA = 1
	a       = 2
	rewardB = 3
	b       = 4
	free    = 5
)

func blockA() api.Block { return on(0, 1, 64) }

func blockB() api.Block {
	x := on(a, 2, 64)
	x.Txs[0].Outs[0].Lock = asks(8)
	return x
}

// some has three nodes: of a and b the first one has a, the second one both, the third one nothing; what they lack is on its way.
func some(t *testing.T) api.World {
	t.Helper()
	w := after(t, fresh(t, 3), mine(0, 1, 0, 7), arrive(0), mine(1, 1, 0, 8))
	want := api.World{Nodes: []api.Node{
		{T: api.Tree{Names: []int{a}, Blocks: []api.Block{blockA()}}, Tip: a},
		{T: api.Tree{Names: []int{a, b}, Blocks: []api.Block{blockA(), blockB()}}, Tip: b},
		{},
	}, Net: net(tell(0, 2, blockA()), tell(1, 0, blockB()), tell(1, 2, blockB()))}
	if want.Book = w.Book; !sameWorld(w, want) || len(w.Book.Texts) != free-1 {
		t.Fatalf("some: %v, want %v", w, want)
	}
	return w
}

// waits is what can wait at the second node of some, where a's reward is ripe.
func waits() api.Tx { return spend(rewardA, 7, 60) }

// later is what can wait behind it, by the name that it has once it waits.
func later() api.Tx {
	x := spend(free, 0, 50)
	x.Ins[0].Key = nil
	return x
}

// busy is some, where both wait at the second node, and nothing is on its way.
func busy(t *testing.T) api.World {
	t.Helper()
	w := some(t)
	w.Net = nil
	w = after(t, w, submit(1, waits()), submit(1, later()))
	w.Net = nil
	return w
}

// crowded is the world, with so many messages on their way.
func crowded(w api.World, count int) api.World {
	w.Net = slices.Repeat(net(ask(0, 1, 9)), count)
	return w
}

// written is the world, in whose book there is room for so many texts.
func written(w api.World, room int) api.World {
	w.Book.Texts = slices.Clone(w.Book.Texts)
	for i := range api.MaxBook - room - len(w.Book.Texts) {
		w.Book.Texts = append(w.Book.Texts, "text "+strconv.Itoa(i))
	}
	return w
}

// tall is a world of nodes of which the first has so many blocks, one on the other, and nothing is on its way.
func tall(t *testing.T, nodes, count int) api.World {
	t.Helper()
	w := fresh(t, nodes)
	for range count {
		w = after(t, w, mine(0, 1, 0, 7))
		w.Net = nil
	}
	return w
}

// P11.1

func TestNew(t *testing.T) {
	for n := 1; n <= api.MaxNodes; n++ {
		w, e := New(n)
		if !sameWorld(w, api.World{Nodes: make([]api.Node, n)}) || e != api.OK {
			t.Errorf("%d: %v, %v", n, w, e)
		}
		if e := Check(w); e != api.OK {
			t.Errorf("%d: Check says %v", n, e)
		}
	}
	for _, n := range []int{0, -1, api.MaxNodes + 1, math.MaxInt, math.MinInt} {
		if w, e := New(n); !isNothing(w) || e != api.ErrRange {
			t.Errorf("%d: %v, %v", n, w, e)
		}
	}
}

func TestCheckMessage(t *testing.T) {
	reward := blockA().Txs[0]
	short := on(0, 1, 64)
	short.Txs = nil
	for _, w := range []struct {
		what string
		m    api.Message
		n    int
		want api.Errno
	}{
		{"a block", tell(0, 1, blockA()), 2, api.OK},
		{"a block that stands on what nobody knows", tell(0, 1, on(99, 9, 1)), 2, api.OK},
		{"a block that gives too much", tell(0, 1, on(0, 1, 65)), 2, api.OK},
		{"the other way round", tell(1, 0, blockA()), 2, api.OK},
		{"between the last ones", pay(3, 2, waits()), 4, api.OK},
		{"more nodes than a world has", pay(99, 98, waits()), 100, api.OK},
		{"as many nodes as may be counted", pay(0, math.MaxInt-1, waits()), math.MaxInt, api.OK},
		{"a transaction", pay(0, 1, waits()), 2, api.OK},
		{"a reward", pay(0, 1, reward), 2, api.OK},
		{"the first name", ask(0, 1, 1), 2, api.OK},
		{"the last name", ask(0, 1, api.MaxBook), 2, api.OK},
		{"of no kind", api.Message{To: 1, Name: 1, B: blockA(), T: waits()}, 2, api.ErrRange},
		{"of a kind too far", api.Message{Kind: api.Pay + 1, To: 1, Name: 1, B: blockA(), T: waits()}, 2, api.ErrRange},
		{"of a kind below all", api.Message{Kind: -1, To: 1, Name: 1, B: blockA(), T: waits()}, 2, api.ErrRange},
		{"from below 0", tell(-1, 1, blockA()), 2, api.ErrRange},
		{"from one too far", tell(2, 1, blockA()), 2, api.ErrRange},
		{"to below 0", tell(1, -1, blockA()), 2, api.ErrRange},
		{"to one too far", tell(1, 2, blockA()), 2, api.ErrRange},
		{"from far", tell(math.MaxInt, 1, blockA()), 2, api.ErrRange},
		{"to far", tell(1, math.MinInt, blockA()), 2, api.ErrRange},
		{"to oneself", tell(1, 1, blockA()), 2, api.ErrRange},
		{"one node", tell(0, 1, blockA()), 1, api.ErrRange},
		{"no nodes", tell(0, 1, blockA()), 0, api.ErrRange},
		{"nodes below 0", tell(0, 1, blockA()), -1, api.ErrRange},
		{"nodes far below 0", tell(0, 1, blockA()), math.MinInt, api.ErrRange},
		{"no block", tell(0, 1, api.Block{}), 2, api.ErrRange},
		{"a block of nothing", tell(0, 1, short), 2, api.ErrForm},
		{"a block of too many", tell(0, 1, on(0, 1, 1, waits(), waits(), waits(), waits())), 2, api.ErrMany},
		{"to oneself is ahead of the block", tell(1, 1, short), 2, api.ErrRange},
		{"no transaction", pay(0, 1, api.Tx{}), 2, api.ErrForm},
		{"a transaction of nothing", pay(0, 1, spend(1, 1, 0)), 2, api.ErrRange},
		{"to oneself is ahead of the transaction", pay(1, 1, api.Tx{}), 2, api.ErrRange},
		{"no name", ask(0, 1, 0), 2, api.ErrRange},
		{"a name too far", ask(0, 1, api.MaxBook+1), 2, api.ErrRange},
		{"a name below 0", ask(0, 1, -1), 2, api.ErrRange},
	} {
		if e := CheckMessage(w.m, w.n); e != w.want {
			t.Errorf("%s: %v, want %v", w.what, e, w.want)
		}
	}
}

func TestCheckMessageOnlyAsksForWhatItTells(t *testing.T) {
	for kind := api.Tell; kind <= api.Pay; kind++ {
		good := api.Message{Kind: kind, To: 1, Name: 1, B: blockA(), T: waits()}
		name, b, x := good, good, good
		name.Name, b.B, x.T = -1, api.Block{}, api.Tx{}
		want := map[int][]api.Errno{
			api.Tell: {api.OK, api.ErrRange, api.OK},
			api.Ask:  {api.ErrRange, api.OK, api.OK},
			api.Pay:  {api.OK, api.OK, api.ErrForm},
		}[kind]
		if got := []api.Errno{CheckMessage(name, 2), CheckMessage(b, 2), CheckMessage(x, 2)}; !slices.Equal(got, want) {
			t.Errorf("%d: %v, want %v", kind, got, want)
		}
	}
}

func TestCheck(t *testing.T) {
	all := written(crowded(busy(t), api.MaxNet), 0)
	for what, w := range map[string]api.World{
		"some": some(t), "busy": busy(t), "all that may be": all, "a book that nobody needs": written(fresh(t, 1), 0),
		"as many blocks as may be": tall(t, 4, api.MaxBlocks),
	} {
		if e := Check(w); e != api.OK {
			t.Errorf("%s: %v", what, e)
		}
	}
}

// wrongs are worlds that are none, and what Check says of them.
func wrongs(t *testing.T) map[string]struct {
	w    api.World
	want api.Errno
} {
	t.Helper()
	good := busy(t)
	with := func(change func(w *api.World)) api.World {
		w := clone.World(good)
		change(&w)
		return w
	}
	long := strings.Repeat("x", api.MaxText+1)
	type wrong = struct {
		w    api.World
		want api.Errno
	}
	return map[string]wrong{
		"nothing":              {api.World{}, api.ErrRange},
		"no nodes":             {with(func(w *api.World) { w.Nodes = nil }), api.ErrRange},
		"too many nodes":       {with(func(w *api.World) { w.Nodes = append(w.Nodes, api.Node{}, api.Node{}) }), api.ErrRange},
		"a text that is twice": {with(func(w *api.World) { w.Book.Texts = append(w.Book.Texts, w.Book.Texts[0]) }), api.ErrTwice},
		"a text that is long":  {with(func(w *api.World) { w.Book.Texts = append(w.Book.Texts, long) }), api.ErrMany},
		"too many texts":       {with(func(w *api.World) { w.Book.Texts = append(written(*w, 0).Book.Texts, "one more") }), api.ErrMany},
		"too many messages":    {crowded(good, api.MaxNet+1), api.ErrMany},
		"another tip":          {with(func(w *api.World) { w.Nodes[1].Tip = a }), api.ErrForm},
		"no tip":               {with(func(w *api.World) { w.Nodes[0].Tip = 0 }), api.ErrForm},
		"a tip of nothing":     {with(func(w *api.World) { w.Nodes[2].Tip = a }), api.ErrForm},
		"a name too many":      {with(func(w *api.World) { w.Nodes[0].T.Names = append(w.Nodes[0].T.Names, b) }), api.ErrForm},
		"another name":         {with(func(w *api.World) { w.Nodes[0].T.Names[0], w.Nodes[0].Tip = b, b }), api.ErrWho},
		"a book without names": {with(func(w *api.World) { w.Book = api.Book{} }), api.ErrWho},
		"a book that has too few": {with(func(w *api.World) {
			w.Book.Texts = w.Book.Texts[:free]
		}), api.ErrWho},
		"what can't wait": {with(func(w *api.World) { w.Nodes[1].Pool = w.Nodes[1].Pool[1:] }), api.ErrSpent},
		"a message of no kind": {with(func(w *api.World) {
			w.Net = net(ask(0, 1, 1), api.Message{To: 1})
		}), api.ErrRange},
		"a message to nobody":       {with(func(w *api.World) { w.Net = net(ask(0, 3, 1)) }), api.ErrRange},
		"a message of a bad block":  {with(func(w *api.World) { w.Net = net(tell(0, 1, on(0, 1, 1, api.Tx{}))) }), api.ErrForm},
		"a message of a bad Tx":     {with(func(w *api.World) { w.Net = net(pay(0, 1, api.Tx{})) }), api.ErrForm},
		"the first bad message":     {with(func(w *api.World) { w.Net = net(ask(0, 1, 1), pay(0, 1, api.Tx{}), ask(0, 1, 0)) }), api.ErrForm},
		"the first bad node":        {with(func(w *api.World) { w.Nodes[1].Pool, w.Nodes[2].Tip = w.Nodes[1].Pool[1:], a }), api.ErrSpent},
		"nodes ahead of the book":   {with(func(w *api.World) { w.Nodes, w.Book.Texts = nil, []string{"", ""} }), api.ErrRange},
		"the book ahead of many":    {with(func(w *api.World) { *w = crowded(*w, api.MaxNet+1); w.Book.Texts[0] = w.Book.Texts[1] }), api.ErrTwice},
		"many ahead of a node":      {with(func(w *api.World) { *w = crowded(*w, api.MaxNet+1); w.Nodes[0].Tip = 0 }), api.ErrMany},
		"a node ahead of a message": {with(func(w *api.World) { w.Nodes[2].Tip, w.Net = a, net(ask(0, 0, 0)) }), api.ErrForm},
	}
}

func TestCheckRefuses(t *testing.T) {
	for what, x := range wrongs(t) {
		if e := Check(x.w); e != x.want {
			t.Errorf("%s: %v, want %v", what, e, x.want)
		}
	}
}

func TestCheckIsSaidFirst(t *testing.T) {
	for what, x := range wrongs(t) {
		for _, y := range []api.Happening{mine(0, 1, 0, 7), mine(0, 0, 0, 7), mine(-1, 1, 0, 7), forget(1), lose(0), share(0, 0), {}, {Kind: 99}} {
			if w, e := Do(x.w, y); !isNothing(w) || e != x.want {
				t.Errorf("Do, %s, %v: %v, %v, want %v", what, y, w, e, x.want)
			}
		}
		if w, e := Settle(x.w); !isNothing(w) || e != x.want {
			t.Errorf("Settle, %s: %v, %v, want %v", what, w, e, x.want)
		}
	}
}

// saidBest is the best block of all that some node has.
func saidBest(w api.World) (best, most int) {
	for _, n := range w.Nodes {
		for _, name := range n.T.Names {
			work, _ := tree.Work(n.T, name)
			if work > most || work == most && name < best {
				best, most = name, work
			}
		}
	}
	return best, most
}
