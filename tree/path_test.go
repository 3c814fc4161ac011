package tree

import (
	"math"
	"slices"
	"testing"

	"cairn/api"
)

// P7.3

func TestPathAndWork(t *testing.T) {
	long := make([]int, api.MaxBlocks)
	for i := range long {
		long[i] = i + 1
	}
	heavy := line(api.MaxBlocks)
	for i := range heavy.Blocks {
		heavy.Blocks[i].Work = api.MaxWork
	}
	for _, c := range []struct {
		what string
		t    api.Tree
		name int
		path []int
		work int
	}{
		{"nothing of nothing", api.Tree{}, 0, nil, 0},
		{"nothing of some", some(), 0, nil, 0},
		{"one that stands on nothing", some(), 7, []int{7}, 1},
		{"another one that stands on nothing", some(), 3, []int{3}, 4},
		{"a second one", some(), 9, []int{7, 9}, 4},
		{"another one on the same", some(), 4, []int{7, 4}, 3},
		{"a third one", some(), 2, []int{7, 9, 2}, 5},
		{"on the other one", some(), 8, []int{3, 8}, 5},
		{"the last of as many as may be", line(api.MaxBlocks), api.MaxBlocks, long, api.MaxBlocks},
		{"one in the middle of them", line(api.MaxBlocks), 10, long[:10], 10},
		{"as much work as may be", heavy, api.MaxBlocks, long, api.MaxBlocks * api.MaxWork},
	} {
		if path, e := Path(c.t, c.name); !slices.Equal(path, c.path) || e != api.OK {
			t.Errorf("Path, %s: %v, %v, want %v", c.what, path, e, c.path)
		}
		if work, e := Work(c.t, c.name); work != c.work || e != api.OK {
			t.Errorf("Work, %s: %v, %v, want %v", c.what, work, e, c.work)
		}
	}
}

func TestNoSuchName(t *testing.T) {
	for _, name := range []int{1, 5, 6, 10, -1, -7, api.MaxBook, api.MaxBook + 1, math.MinInt, math.MaxInt} {
		for _, x := range []api.Tree{some(), {}} {
			if path, e := Path(x, name); path != nil || e != api.ErrWho {
				t.Errorf("Path of %d: %v, %v", name, path, e)
			}
			if work, e := Work(x, name); work != 0 || e != api.ErrWho {
				t.Errorf("Work of %d: %v, %v", name, work, e)
			}
			for _, other := range []int{0, 7, name} {
				if n, e := Fork(x, name, other); n != 0 || e != api.ErrWho {
					t.Errorf("Fork of %d, %d: %v, %v", name, other, n, e)
				}
				if n, e := Fork(x, other, name); n != 0 || e != api.ErrWho {
					t.Errorf("Fork of %d, %d: %v, %v", other, name, n, e)
				}
			}
		}
	}
}

func TestBest(t *testing.T) {
	for _, c := range []struct {
		what string
		t    api.Tree
		want int
	}{
		{"nothing", api.Tree{}, 0},
		{"empty lists", api.Tree{Names: []int{}, Blocks: []api.Block{}}, 0},
		{"one", treeOf(named{9, plain(0, 1, 1, 5)}), 9},
		{"the greatest name", treeOf(named{api.MaxBook, plain(0, 1, 1, 5)}), api.MaxBook},
		{"two of one work, of two heights", some(), 2},
		{"the last of a line", line(api.MaxBlocks), api.MaxBlocks},
		{"the lowest of many", bush(api.MaxBlocks), 1},
		{"the lower name first", treeOf(named{5, plain(0, 1, 3, 5)}, named{6, plain(0, 1, 3, 6)}), 5},
		{"the lower name last", treeOf(named{6, plain(0, 1, 3, 5)}, named{5, plain(0, 1, 3, 6)}), 5},
		{"two of one work that stand on one", treeOf(named{9, plain(0, 1, 1, 5)}, named{8, plain(9, 2, 2, 5)}, named{7, plain(9, 2, 2, 6)}), 7},
		{"more work is ahead of a lower name", treeOf(named{1, plain(0, 1, 3, 5)}, named{9, plain(0, 1, 4, 5)}), 9},
		{"more work is ahead of height", treeOf(named{1, plain(0, 1, 1, 5)}, named{2, plain(1, 2, 1, 5)}, named{3, plain(2, 3, 1, 5)}, named{4, plain(0, 1, 4, 5)}), 4},
		{"work of all is ahead of its own", treeOf(named{1, plain(0, 1, 5, 5)}, named{2, plain(0, 1, 4, 5)}, named{3, plain(2, 2, 2, 5)}), 3},
		{"a lower name is ahead of height", treeOf(named{5, plain(0, 1, 1, 5)}, named{6, plain(5, 2, 1, 5)}, named{4, plain(0, 1, 2, 5)}), 4},
	} {
		if got, e := Best(c.t); got != c.want || e != api.OK {
			t.Errorf("%s: %v, %v, want %v", c.what, got, e, c.want)
		}
	}
}

func TestFork(t *testing.T) {
	for _, c := range []struct {
		what       string
		a, b, want int
	}{
		{"nothing", 0, 0, 0},
		{"nothing, and one", 0, 7, 0},
		{"nothing, and a high one", 0, 2, 0},
		{"one and itself", 7, 7, 7},
		{"a high one and itself", 2, 2, 2},
		{"one, and what it stands on", 2, 9, 9},
		{"one, and the first that it stands on", 2, 7, 7},
		{"two on one", 9, 4, 7},
		{"two of two heights", 2, 4, 7},
		{"two that stand on nothing", 7, 3, 0},
		{"two that stand on two such", 2, 8, 0},
		{"two of one height that stand on two such", 9, 8, 0},
	} {
		if got, e := Fork(some(), c.a, c.b); got != c.want || e != api.OK {
			t.Errorf("%s: %v, %v, want %v", c.what, got, e, c.want)
		}
		if got, e := Fork(some(), c.b, c.a); got != c.want || e != api.OK {
			t.Errorf("%s, the other way round: %v, %v, want %v", c.what, got, e, c.want)
		}
	}
	if got, e := Fork(line(api.MaxBlocks), api.MaxBlocks, api.MaxBlocks-1); got != api.MaxBlocks-1 || e != api.OK {
		t.Errorf("the last two of as many as may be: %v, %v", got, e)
	}
	if got, e := Fork(api.Tree{}, 0, 0); got != 0 || e != api.OK {
		t.Errorf("nothing of nothing: %v, %v", got, e)
	}
}

// P7.4

// drawer draws numbers, the same ones of the same seed.
type drawer struct{ seed int }

func (d *drawer) below(n int) int {
	d.seed = (d.seed*7919 + 104729) % 1000003
	return d.seed % n
}

// blocks draws some that stand on one another, by names in any order, with so little work that many have the same.
func (d *drawer) blocks(count int) []named {
	var names []int
	for i := range count {
		names = slices.Insert(names, d.below(i+1), 1+5*i)
	}
	var l []named
	for i, name := range names {
		below := named{}
		if i > 0 && d.below(8) > 0 {
			below = l[d.below(i)]
		}
		l = append(l, named{name, plain(below.name, below.b.Height+1, 1+d.below(3), 1+i)})
	}
	return l
}

// grown is the tree of blocks that come in an order that is drawn; those that come too early come again.
func (d *drawer) grown(t *testing.T, l []named) api.Tree {
	t.Helper()
	var x api.Tree
	left := slices.Clone(l)
	for len(left) > 0 {
		i := d.below(len(left))
		y, e := Add(x, left[i].name, left[i].b)
		if e == api.ErrWho {
			continue
		}
		if e != api.OK {
			t.Fatal(left[i], e)
		}
		x = y
		left = slices.Delete(left, i, i+1)
	}
	return x
}

// below are the names from a block down to what stands on nothing, as its parents tell them.
func below(l []named, name int) []int {
	var names []int
	for name != 0 {
		names = append(names, name)
		i := slices.IndexFunc(l, func(x named) bool { return x.name == name })
		name = l[i].b.Parent
	}
	return names
}

func work(l []named, name int) int {
	sum := 0
	for _, x := range l {
		if slices.Contains(below(l, name), x.name) {
			sum += x.b.Work
		}
	}
	return sum
}

// best holds all against each other, those of the lowest names first.
func best(l []named) int {
	names := []int{}
	for _, x := range l {
		names = append(names, x.name)
	}
	slices.Sort(names)
	return slices.MaxFunc(names, func(a, b int) int { return work(l, a) - work(l, b) })
}

// fork is the first name, from a on down, that is also below b.
func fork(l []named, a, b int) int {
	for _, name := range below(l, a) {
		if slices.Contains(below(l, b), name) {
			return name
		}
	}
	return 0
}

func checkGrown(t *testing.T, x api.Tree, l []named) {
	t.Helper()
	if e := Check(x); e != api.OK {
		t.Fatal(x, e)
	}
	if got, e := Best(x); got != best(l) || e != api.OK {
		t.Fatalf("Best of %v: %v, %v, want %v", x, got, e, best(l))
	}
	for _, a := range l {
		want := below(l, a.name)
		slices.Reverse(want)
		if got, e := Path(x, a.name); !slices.Equal(got, want) || e != api.OK {
			t.Fatalf("Path of %v: %v, %v, want %v", a.name, got, e, want)
		}
		if got, e := Work(x, a.name); got != work(l, a.name) || e != api.OK {
			t.Fatalf("Work of %v: %v, %v, want %v", a.name, got, e, work(l, a.name))
		}
		for _, b := range l {
			if got, e := Fork(x, a.name, b.name); got != fork(l, a.name, b.name) || e != api.OK {
				t.Fatalf("Fork of %v, %v: %v, %v, want %v", a.name, b.name, got, e, fork(l, a.name, b.name))
			}
		}
	}
}

func TestTheSameBlocksHaveTheSameBestOne(t *testing.T) {
	ties, orders := 0, 0
	for seed := range 40 {
		d := &drawer{seed: seed * 1009}
		l := d.blocks(1 + d.below(api.MaxBlocks))
		most := work(l, best(l))
		if slices.ContainsFunc(l, func(x named) bool { return x.name != best(l) && work(l, x.name) == most }) {
			ties++
		}
		was := treeOf(l...)
		checkGrown(t, was, l)
		for range 5 {
			x := d.grown(t, l)
			checkGrown(t, x, l)
			if !slices.Equal(x.Names, was.Names) {
				orders++
			}
		}
	}
	if ties < 5 || orders < 100 {
		t.Errorf("too few of one work, or orders too much alike: %d, %d", ties, orders)
	}
}
