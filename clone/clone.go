// Package clone: whole copies, in memory of their own, of what has lists inside, for all layers.
package clone

import (
	"slices"

	"cairn/api"
	"cairn/output"
)

// Coin is a coin like c.
func Coin(c api.Coin) api.Coin {
	c.O = output.Copy(c.O)
	return c
}

// Coins are coins like those of l.
func Coins(l []api.Coin) []api.Coin {
	l = slices.Clone(l)
	for i, c := range l {
		l[i] = Coin(c)
	}
	return l
}

// Tx is a transaction like t.
func Tx(t api.Tx) api.Tx {
	t.Ins, t.Outs = slices.Clone(t.Ins), slices.Clone(t.Outs)
	for i, in := range t.Ins {
		t.Ins[i].Key = slices.Clone(in.Key)
	}
	for i, o := range t.Outs {
		t.Outs[i] = output.Copy(o)
	}
	return t
}

// Txs are transactions like those of l.
func Txs(l []api.Tx) []api.Tx {
	l = slices.Clone(l)
	for i, t := range l {
		l[i] = Tx(t)
	}
	return l
}

// Block is a block like b.
func Block(b api.Block) api.Block {
	b.Txs = Txs(b.Txs)
	return b
}

// Tree is a tree like t.
func Tree(t api.Tree) api.Tree {
	t.Names, t.Blocks = slices.Clone(t.Names), slices.Clone(t.Blocks)
	for i, b := range t.Blocks {
		t.Blocks[i] = Block(b)
	}
	return t
}

// Node is a node like n.
func Node(n api.Node) api.Node {
	n.T, n.Pool = Tree(n.T), Txs(n.Pool)
	return n
}

// Message is a message like m.
func Message(m api.Message) api.Message {
	m.B, m.T = Block(m.B), Tx(m.T)
	return m
}

// World is a world like w.
func World(w api.World) api.World {
	w.Book.Texts, w.Nodes, w.Net = slices.Clone(w.Book.Texts), slices.Clone(w.Nodes), slices.Clone(w.Net)
	for i, n := range w.Nodes {
		w.Nodes[i] = Node(n)
	}
	for i, m := range w.Net {
		w.Net[i] = Message(m)
	}
	return w
}
