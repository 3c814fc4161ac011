package world

import (
	"cairn/api"
	"cairn/node"
	"cairn/tree"
)

// arrive takes a message off its way, and lets the node that it comes to heed it. A message is only news: whatever that node can't do with it is no error of the happening.
func (s *scene) arrive(x api.Happening) api.Errno {
	m := s.w.Net[x.K]
	s.lose(x)
	switch m.Kind {
	case api.Tell:
		s.told(m)
	case api.Ask:
		s.asked(m)
	case api.Pay:
		s.offer(m.To, m.T)
	}
	return api.OK
}

// told lets a node take a block, or ask for the one that it stands on.
func (s *scene) told(m api.Message) {
	e := s.change(m.To, func(k api.Book, n api.Node) (api.Book, api.Node, api.Errno) {
		out, then, _, e := node.Take(k, n, m.B)
		return out, then, e
	})
	if e == api.ErrWho {
		s.send(api.Message{Kind: api.Ask, From: m.To, To: m.From, Name: m.B.Parent})
	}
}

// asked lets a node tell a block, if it has that.
func (s *scene) asked(m api.Message) {
	if b, e := tree.Block(s.w.Nodes[m.To].T, m.Name); e == api.OK {
		s.send(api.Message{Kind: api.Tell, From: m.To, To: m.From, B: b})
	}
}
