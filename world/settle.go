package world

import (
	"cmp"
	"slices"

	"cairn/api"
	"cairn/clone"
	"cairn/node"
)

// named is a block and its name.
type named struct {
	name int
	b    api.Block
}

// settle makes all nodes one that has taken all blocks.
func (s *scene) settle() api.Errno {
	k, n, e := takeAll(s.w.Book, blocksOf(s.w.Nodes))
	if e != api.OK {
		return e
	}
	s.w.Book, s.w.Net = k, nil
	for i := range s.w.Nodes {
		s.w.Nodes[i] = clone.Node(n)
	}
	return api.OK
}

// blocksOf has all blocks of some nodes, each once, the lowest ones first: so each comes behind the one that it stands on.
func blocksOf(nodes []api.Node) []named {
	var l []named
	for _, n := range nodes {
		for i, name := range n.T.Names {
			l = append(l, named{name: name, b: n.T.Blocks[i]})
		}
	}
	slices.SortFunc(l, func(x, y named) int {
		return cmp.Or(cmp.Compare(x.b.Height, y.b.Height), cmp.Compare(x.name, y.name))
	})
	// All nodes have their names of one book, so that one name is one block.
	return slices.CompactFunc(l, func(x, y named) bool { return x.name == y.name })
}

// takeAll lets a node that has nothing take blocks, one after the other.
func takeAll(k api.Book, l []named) (api.Book, api.Node, api.Errno) {
	var n api.Node
	for _, x := range l {
		var e api.Errno
		if k, n, _, e = node.Take(k, n, x.b); e != api.OK {
			return api.Book{}, api.Node{}, e
		}
	}
	return k, n, api.OK
}
