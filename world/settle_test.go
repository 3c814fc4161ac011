package world

import (
	"slices"
	"testing"

	"cairn/api"
	"cairn/node"
)

// P11.3

// settled is the world that Settle answers, where all nodes must be one, by these names; nothing waits or is on its way.
func settled(t *testing.T, what string, w api.World, names []int, tip int) api.World {
	t.Helper()
	v, e := Settle(w)
	if e != api.OK || len(v.Nodes) != len(w.Nodes) || len(v.Net) != 0 || !slices.Equal(v.Book.Texts, w.Book.Texts) {
		t.Fatalf("%s: %v, %v", what, v, e)
	}
	for i, n := range v.Nodes {
		if !slices.Equal(n.T.Names, names) || n.Tip != tip || len(n.Pool) != 0 {
			t.Errorf("%s: the node %d is %v, want %v, %v", what, i, n, names, tip)
		}
	}
	if e := Check(v); e != api.OK {
		t.Errorf("%s: then Check says %v", what, e)
	}
	if then, e := Settle(v); !sameWorld(then, v) || e != api.OK {
		t.Errorf("%s: then Settle says %v, %v", what, then, e)
	}
	return v
}

func TestSettle(t *testing.T) {
	for n := 1; n <= api.MaxNodes; n++ {
		settled(t, "nothing", fresh(t, n), nil, 0)
		settled(t, "one block", after(t, fresh(t, n), mine(n-1, 1, 0, 7)), []int{2}, 2)
	}
	settled(t, "some", some(t), []int{a, b}, b)
	settled(t, "some, where it waits", busy(t), []int{a, b}, b)
	settled(t, "some, with much on its way", crowded(some(t), api.MaxNet), []int{a, b}, b)
	settled(t, "some, in a full book", written(some(t), 0), []int{a, b}, b)
	v := settled(t, "as one that has all", some(t), []int{a, b}, b)
	if n := some(t).Nodes[1]; !node.Same(v.Nodes[0], n) {
		t.Errorf("%v, want %v", v.Nodes[0], n)
	}
}

func TestSettleInOrder(t *testing.T) {
	// The first node has 4, the second one 2: the lower name is first, whoever has it.
	w := after(t, fresh(t, 2), mine(1, 1, 0, 7), mine(0, 1, 0, 8))
	settled(t, "of one height by name", w, []int{2, 4}, 2)
	// What is on 2 has a lower name than 6, but is higher.
	w = after(t, fresh(t, 2), mine(0, 1, 0, 7), mine(0, 1, 0, 7), mine(1, 3, 0, 8), mine(1, 1, 0, 8))
	settled(t, "by height", w, []int{2, 6, 4, 8}, 8)
	// A node that took 6 ahead of what is on 2 has another order, and the same blocks.
	w = after(t, w, lose(0), lose(0), arrive(0), arrive(0))
	if got := w.Nodes[0].T.Names; !slices.Equal(got, []int{2, 4, 6, 8}) {
		t.Fatal("another order:", got)
	}
	settled(t, "by height, whatever the order", w, []int{2, 6, 4, 8}, 8)
}

func TestSettleOfTheBest(t *testing.T) {
	// Two stand on one, of one work: the lower name is the best.
	w := after(t, fresh(t, 3), mine(0, 1, 0, 7), arrive(0), arrive(0), mine(0, 2, 0, 8), mine(1, 2, 0, 9))
	settled(t, "of one work", w, []int{2, 4, 6}, 4)
	settled(t, "of more work", after(t, w, mine(2, 3, 0, 9)), []int{2, 4, 6, 7}, 7)
}

func TestSettleWithoutRoom(t *testing.T) {
	w := tall(t, 2, api.MaxBlocks-1)
	names := append(slices.Clone(w.Nodes[0].T.Names), 0)
	other := after(t, w, mine(1, 1, 0, 9))
	// The block of the other one has the first height, and the last name.
	copy(names[2:], names[1:])
	names[1] = len(other.Book.Texts)
	settled(t, "as many blocks as may be", other, names, names[api.MaxBlocks-1])
	settled(t, "the same blocks twice", after(t, tall(t, 2, api.MaxBlocks), share(0, 1), arrive(0)), tall(t, 1, api.MaxBlocks).Nodes[0].T.Names, 2*api.MaxBlocks)
	for _, w := range []api.World{after(t, tall(t, 2, api.MaxBlocks), mine(1, 1, 0, 9)), after(t, other, mine(1, 1, 0, 9))} {
		if v, e := Settle(w); !isNothing(v) || e != api.ErrFull {
			t.Errorf("too many blocks: %v, %v", v, e)
		}
	}
}
