package tree

import "cairn/api"

// Path tells the names of all that a block stands on, the first one first, and its own behind them.
func Path(t api.Tree, name int) ([]int, api.Errno) {
	if e := Check(t); e != api.OK {
		return nil, e
	}
	if name != 0 && !has(t, name) {
		return nil, api.ErrWho
	}
	return pathTo(t, name), api.OK
}

// pathTo goes down from a block to what stands on nothing. Each height is one more than the one below, so a path has as many names as its last one is high.
func pathTo(t api.Tree, name int) []int {
	height := heightOf(t, name)
	path := make([]int, height)
	for down := range height {
		path[height-1-down] = name
		name = find(t, name).Parent
	}
	return path
}

// Work tells how much work a block and all that it stands on are.
func Work(t api.Tree, name int) (int, api.Errno) {
	path, e := Path(t, name)
	if e != api.OK {
		return 0, e
	}
	return workOf(t, path), api.OK
}

func workOf(t api.Tree, path []int) int {
	sum := 0
	for _, name := range path {
		sum += find(t, name).Work
	}
	return sum
}

// Best tells the block behind which most work stands; the lowest name decides between equals, so that the order in which they came doesn't.
func Best(t api.Tree) (int, api.Errno) {
	if e := Check(t); e != api.OK {
		return 0, e
	}
	best, most := 0, 0
	for _, name := range t.Names {
		work := workOf(t, pathTo(t, name))
		if work > most || work == most && name < best {
			best, most = name, work
		}
	}
	return best, api.OK
}

// Fork tells the last block on which both stand, or which they are.
func Fork(t api.Tree, a, b int) (int, api.Errno) {
	pathA, e := Path(t, a)
	if e != api.OK {
		return 0, e
	}
	pathB, e := Path(t, b)
	if e != api.OK {
		return 0, e
	}
	last := 0
	// Paths that part don't meet again, as each block stands on one.
	for i := range min(len(pathA), len(pathB)) {
		if pathA[i] == pathB[i] {
			last = pathA[i]
		}
	}
	return last, api.OK
}
