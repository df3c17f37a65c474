package net_test

import (
	"slices"

	"burrow/api"
)

func (s *soul) other(i int) bool { return i >= 0 && i < len(s.roads) && i != s.name }

// carry is a note as a letter, if there is a link.
func (s *soul) carry(to int, n note) []*letter {
	r := s.roads[to]
	if !r.linked {
		return nil
	}
	r.sent++
	return []*letter{{kind: 3, from: s.name, to: to, number: r.sent - 1, note: n}}
}

// send gives an item to peers.
func (s *soul) send(to []int, item any) []*letter {
	var out []*letter
	for _, i := range to {
		r := s.roads[i]
		n := note{r.next, item}
		r.next++
		r.waiting = append(r.waiting, n)
		out = append(out, s.carry(i, n)...)
	}
	return out
}

// again is all that waits for a peer.
func (s *soul) again(to int) []*letter {
	var out []*letter
	for _, n := range s.roads[to].waiting {
		out = append(out, s.carry(to, n)...)
	}
	return out
}

func (s *soul) full(peers []int) bool {
	return slices.ContainsFunc(peers, func(i int) bool { return len(s.roads[i].waiting) >= 64 })
}

// group are the peers of its group.
func (s *soul) group() []int {
	if s.at == nil {
		return nil
	}
	return s.at.others(s.name)
}

// step performs a command.
func (s *soul) step(c api.Command) ([]*letter, error) {
	switch c.Kind {
	case api.DoConnect:
		return s.connect(c.Peer)
	case api.DoCreate:
		if s.wiped || s.at != nil {
			return nil, api.ErrState
		}
		s.w.groups++
		s.enter(&epoch{group: s.w.groups, names: []int{s.name}})
		return nil, nil
	case api.DoAdd:
		if !s.other(c.Peer) {
			return nil, api.ErrRange
		}
		return s.propose(api.Add, c.Peer)
	case api.DoUpdate:
		return s.propose(api.Update, 0)
	case api.DoRemove:
		return s.propose(api.Remove, c.Peer)
	case api.DoCommit:
		return s.commit()
	case api.DoSend:
		return s.seal(string(c.Payload))
	case api.DoTick:
		var out []*letter
		for i, r := range s.roads {
			if r.begun {
				out = append(out, &letter{kind: 1, from: s.name, to: i})
			}
			out = append(out, s.again(i)...)
		}
		return out, nil
	}
	return nil, api.ErrForm
}

func (s *soul) connect(to int) ([]*letter, error) {
	if !s.other(to) {
		return nil, api.ErrRange
	}
	if r := s.roads[to]; to < s.name || r.begun || r.linked {
		return nil, api.ErrState
	}
	s.roads[to].begun = true
	return []*letter{{kind: 1, from: s.name, to: to}}, nil
}

func (s *soul) propose(kind, about int) ([]*letter, error) {
	if s.full(s.group()) {
		return nil, api.ErrFull
	}
	if s.at == nil {
		return nil, api.ErrState
	}
	p := proposal{of: s.at, from: s.leaf, kind: kind, about: about}
	if kind == api.Remove {
		if p.about = s.at.leafOf(about); about < 0 || p.about < 0 {
			return nil, api.ErrMember
		}
	}
	if kind == api.Update {
		s.w.marks++
		p.mark = s.w.marks
	}
	if err := s.cache(p); err != nil {
		return nil, err
	}
	return s.send(s.group(), p), nil
}

func (s *soul) commit() ([]*letter, error) {
	if s.at == nil {
		return nil, api.ErrState
	}
	for i := range s.roads {
		if i != s.name && s.full([]int{i}) {
			return nil, api.ErrFull
		}
	}
	to, now, from := s.group(), s.at, s.leaf
	list := now.allowed(s.cached, from)
	next, added := now.after(list)
	s.enter(next)
	s.catchUp()
	out := s.send(to, &ending{now, next, from, list})
	for _, name := range added {
		out = append(out, s.send([]int{name}, &invitation{next, name})...)
	}
	return out, nil
}

func (s *soul) seal(text string) ([]*letter, error) {
	if s.full(s.group()) {
		return nil, api.ErrFull
	}
	if s.at == nil {
		return nil, api.ErrState
	}
	if len(text) > 1024 {
		return nil, api.ErrLen
	}
	c := s.own()
	if c.place == 1<<32-1 {
		return nil, api.ErrUsedUp
	}
	p := &parcel{s.at, s.leaf, c.place, text, c.jumped}
	c.take(c.place)
	return s.send(s.group(), p), nil
}

// own is its chain in the last epoch.
func (s *soul) own() *chain {
	h := s.box[len(s.box)-1]
	return h.chains[h.leaf]
}

func (s *soul) jump(number int) bool {
	if len(s.box) == 0 {
		return false
	}
	c := s.own()
	if number < c.place || number > 1<<32-1 {
		return false
	}
	c.jumped = c.jumped || number > c.place
	c.place, c.lowest, c.highest = number, number, max(c.highest, number-1)
	return true
}

// receive takes a letter that is what it seems to be.
func (s *soul) receive(l *letter) ([]*letter, *given, error) {
	r := s.roads[l.from]
	second := &letter{kind: 2, from: s.name, to: l.from}
	switch l.kind {
	case 1:
		if r.answered {
			return []*letter{second}, nil, nil
		}
		r.answered, r.linked = true, true
		return append([]*letter{second}, s.again(l.from)...), nil, nil
	case 2:
		if !r.begun {
			return nil, nil, api.ErrState
		}
		r.begun, r.linked = false, true
		return s.again(l.from), nil, nil
	}
	if !r.linked {
		return nil, nil, api.ErrState
	}
	if err := r.window.check(l.number); err != nil {
		return nil, nil, err
	}
	r.window.mark(l.number)
	if _, ok := l.note.item.(receipt); ok {
		r.waiting = slices.DeleteFunc(r.waiting, func(n note) bool { return n.number == l.note.number })
		return nil, nil, nil
	}
	out := s.carry(l.from, note{l.note.number, receipt{}})
	if r.arrived[l.note.number] {
		return out, nil, api.ErrReplay
	}
	r.arrived[l.note.number] = true
	g, err := s.item(l.note.item)
	return out, g, err
}

func (s *soul) item(item any) (*given, error) {
	switch x := item.(type) {
	case proposal:
		return nil, s.cache(x)
	case *ending:
		return nil, s.handle(x)
	case *invitation:
		if s.wiped || s.at != nil {
			return nil, api.ErrState
		}
		s.enter(x.to)
		return nil, nil
	}
	g, err := s.open(item.(*parcel))
	if err != nil {
		return nil, err
	}
	return &g, nil
}

// garbage is why bytes are refused that nobody made who has the keys.
func (s *soul) garbage(from int, b []byte) error {
	if !s.other(from) {
		return api.ErrRange
	}
	if len(b) == 0 || b[0] < 1 || b[0] > 3 {
		return api.ErrForm
	}
	r, many := s.roads[from], len(b)-1
	switch b[0] {
	case 1:
		if from > s.name || r.begun || r.linked {
			return api.ErrState
		}
	case 2:
		if !r.begun {
			return api.ErrState
		}
	case 3:
		if !r.linked {
			return api.ErrState
		}
		if many < 20 || many > 1<<16+20 {
			return api.ErrLen
		}
		n := int(b[1])<<24 | int(b[2])<<16 | int(b[3])<<8 | int(b[4])
		if err := r.window.check(n); err != nil {
			return err
		}
		return api.ErrAuth
	}
	if many < 48 || many > 1072 {
		return api.ErrLen
	}
	return api.ErrAuth
}
