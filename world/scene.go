package world

import (
	"slices"

	"cairn/api"
	"cairn/clone"
	"cairn/node"
	"cairn/number"
	"cairn/tree"
)

// scene is a world at work: a checked copy, which is changed. Where something fails, what is left of it is never seen.
type scene struct{ w api.World }

// deed is what a happening does to a scene.
type deed func(x api.Happening) api.Errno

// happen finds the deed of a happening, by its kind.
func (s *scene) happen(x api.Happening) api.Errno {
	if !number.Within(x.Kind, api.Mine, api.Fetch) {
		return api.ErrForm
	}
	return s.deeds()[x.Kind](x)
}

// deeds has by kind what each does, behind what must be there for it.
func (s *scene) deeds() [api.Fetch + 1]deed {
	return [api.Fetch + 1]deed{
		api.Mine:   s.atNode(s.mine),
		api.Submit: s.atNode(s.submit),
		api.Arrive: s.ofMessage(s.arrive),
		api.Lose:   s.ofMessage(s.lose),
		api.Double: s.ofMessage(s.withRoom(s.double)),
		api.Share:  s.atNode(s.toAnother(s.withRoom(s.share))),
		api.Forget: s.atNode(s.forget),
		api.Fetch:  s.atNode(s.toAnother(s.withRoom(s.fetch))),
	}
}

// atNode is the deed where its node is there.
func (s *scene) atNode(do deed) deed {
	return func(x api.Happening) api.Errno {
		if !isPlace(x.Node, len(s.w.Nodes)) {
			return api.ErrWho
		}
		return do(x)
	}
}

// toAnother is the deed where the one that it is sent to is there, and another one.
func (s *scene) toAnother(do deed) deed {
	return func(x api.Happening) api.Errno {
		if !isPlace(x.To, len(s.w.Nodes)) {
			return api.ErrWho
		}
		if x.To == x.Node {
			return api.ErrTwice
		}
		return do(x)
	}
}

// ofMessage is the deed where its message is there.
func (s *scene) ofMessage(do deed) deed {
	return func(x api.Happening) api.Errno {
		if !isPlace(x.K, len(s.w.Net)) {
			return api.ErrWho
		}
		return do(x)
	}
}

// withRoom is the deed where there is room for a message.
func (s *scene) withRoom(do deed) deed {
	return func(x api.Happening) api.Errno {
		if len(s.w.Net) == api.MaxNet {
			return api.ErrFull
		}
		return do(x)
	}
}

// mine lets a node make a block, and tell it to all others.
func (s *scene) mine(x api.Happening) api.Errno {
	to := []api.Op{{Kind: api.Push, N: x.N}, {Kind: api.Same}}
	var b api.Block
	e := s.change(x.Node, func(k api.Book, n api.Node) (out api.Book, then api.Node, e api.Errno) {
		out, then, b, e = node.Make(k, n, x.Work, x.K, to)
		return out, then, e
	})
	if e != api.OK {
		return e
	}
	s.sendOthers(api.Message{Kind: api.Tell, From: x.Node, B: b})
	return api.OK
}

// submit lets a transaction wait at a node, and all others hear of it.
func (s *scene) submit(x api.Happening) api.Errno {
	if e := s.offer(x.Node, x.T); e != api.OK {
		return e
	}
	s.sendOthers(api.Message{Kind: api.Pay, From: x.Node, T: x.T})
	return api.OK
}

func (s *scene) forget(x api.Happening) api.Errno {
	s.w.Nodes[x.Node].Pool = nil
	return api.OK
}

// share tells another node the best block of one.
func (s *scene) share(x api.Happening) api.Errno {
	n := s.w.Nodes[x.Node]
	b, e := tree.Block(n.T, n.Tip)
	if e != api.OK {
		return e
	}
	s.send(api.Message{Kind: api.Tell, From: x.Node, To: x.To, B: b})
	return api.OK
}

// fetch asks another node for a block.
func (s *scene) fetch(x api.Happening) api.Errno {
	if e := checkName(x.K); e != api.OK {
		return e
	}
	s.send(api.Message{Kind: api.Ask, From: x.Node, To: x.To, Name: x.K})
	return api.OK
}

// lose takes a message off its way.
func (s *scene) lose(x api.Happening) api.Errno {
	s.w.Net = slices.Delete(s.w.Net, x.K, x.K+1)
	return api.OK
}

func (s *scene) double(x api.Happening) api.Errno {
	s.send(s.w.Net[x.K])
	return api.OK
}

// change does something to a node and the book; where that fails, both stay as they are.
func (s *scene) change(i int, do func(k api.Book, n api.Node) (api.Book, api.Node, api.Errno)) api.Errno {
	k, n, e := do(s.w.Book, s.w.Nodes[i])
	if e == api.OK {
		s.w.Book, s.w.Nodes[i] = k, n
	}
	return e
}

func (s *scene) offer(i int, t api.Tx) api.Errno {
	return s.change(i, func(k api.Book, n api.Node) (api.Book, api.Node, api.Errno) { return node.Offer(k, n, t) })
}

// send puts a message behind the others; without room it is lost. It is a copy, as what it tells may be in a node or in another message, too.
func (s *scene) send(m api.Message) {
	if len(s.w.Net) < api.MaxNet {
		s.w.Net = append(s.w.Net, clone.Message(m))
	}
}

// sendOthers sends a message to all nodes but the one that it comes from.
func (s *scene) sendOthers(m api.Message) {
	for i := range len(s.w.Nodes) {
		if m.To = i; m.To != m.From {
			s.send(m)
		}
	}
}
