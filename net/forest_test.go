package net_test

import (
	"slices"

	"burrow/api"
)

// What nodes do, told without any keys: a forest of epochs, and who is where in it.

// epoch is a node of the forest.
type epoch struct {
	group, number int
	names         []int // by leaf; -1: nobody
}

func (e *epoch) leafOf(name int) int { return slices.Index(e.names, name) }

// others are the names of the group that are peers of one, rising.
func (e *epoch) others(name int) []int {
	var out []int
	for _, n := range e.names {
		if n >= 0 && n != name {
			out = append(out, n)
		}
	}
	slices.Sort(out)
	return out
}

// proposal is one; an Update's mark makes it different from all others.
type proposal struct {
	of         *epoch
	from, kind int
	about      int // the name of an Add, the leaf of a Remove
	mark       int
}

// ending is a commit.
type ending struct {
	of, next *epoch
	from     int
	list     []proposal
}

// invitation is a welcome.
type invitation struct {
	to   *epoch
	name int
}

// parcel is a packet. After a jump its number has another key than others expect.
type parcel struct {
	of           *epoch
	from, number int
	text         string
	jumped       bool
}

// receipt is an acknowledgement.
type receipt struct{}

// note is a message of a link.
type note struct {
	number int
	item   any
}

// letter is a datagram: the first or the second one of a handshake, or a note with a number of its link.
type letter struct {
	kind, from, to int
	number         int
	note           note
}

// allowed are those of the proposals, in order, that the committer's list can hold.
func (e *epoch) allowed(list []proposal, committer int) []proposal {
	var out []proposal
	about := map[[2]int]int{{0, committer}: 1}
	for _, p := range list {
		key := [2]int{0, p.from}
		switch p.kind {
		case api.Add:
			key = [2]int{1, p.about}
		case api.Remove:
			key = [2]int{0, p.about}
		}
		if about[key]++; about[key] == 1 {
			out = append(out, p)
		}
	}
	return out
}

// after is the epoch that a list leads to, and the names that are added.
func (e *epoch) after(list []proposal) (*epoch, []int) {
	next := &epoch{e.group, e.number + 1, slices.Clone(e.names)}
	for _, p := range list {
		if p.kind == api.Remove {
			next.names[p.about] = -1
		}
	}
	for len(next.names) > 1 && !slices.ContainsFunc(next.names[len(next.names)/2:], func(n int) bool { return n >= 0 }) {
		next.names = next.names[:len(next.names)/2]
	}
	var added []int
	for _, p := range list {
		if p.kind != api.Add {
			continue
		}
		i := slices.Index(next.names, -1)
		if i < 0 {
			i = len(next.names)
			next.names = append(next.names, slices.Repeat([]int{-1}, len(next.names))...)
		}
		next.names[i] = p.about
		added = append(added, p.about)
	}
	return next, added
}

// window is which numbers were taken.
type window struct {
	taken   map[int]bool
	highest int
}

func newWindow() window { return window{map[int]bool{}, -1} }

func (w *window) check(n int) error {
	switch {
	case n >= 1<<32-1:
		return api.ErrUsedUp
	case n < w.highest-64:
		return api.ErrOld
	case w.taken[n]:
		return api.ErrReplay
	}
	return nil
}

func (w *window) mark(n int) {
	w.taken[n] = true
	w.highest = max(w.highest, n)
}

// chain is the numbers of a leaf in an epoch.
type chain struct {
	window
	place, lowest int
	jumped        bool
}

func (c *chain) check(n int) error {
	if err := c.window.check(n); err != nil {
		return err
	}
	if n < c.lowest {
		return api.ErrReplay
	}
	if n > c.place+256 {
		return api.ErrFar
	}
	return nil
}

func (c *chain) take(n int) {
	c.mark(n)
	c.place = max(c.place, n+1)
}

// held is an epoch of a node's box.
type held struct {
	e      *epoch
	leaf   int
	chains []*chain
}

// road is what a node keeps of a peer.
type road struct {
	begun, linked, answered bool
	waiting                 []note
	next, sent              int
	window                  window
	arrived                 map[int]bool
}

// soul is a node, without keys.
type soul struct {
	name   int
	wiped  bool
	at     *epoch
	leaf   int
	cached []proposal
	later  []*ending
	box    []held
	roads  []*road
	w      *world
}

// given is a payload that came out.
type given struct {
	from, epoch int
	text        string
}

// world is the net, without keys.
type world struct {
	souls  []*soul
	under  []*letter
	groups int
	marks  int
}

func newWorld(many int) *world {
	w := &world{}
	for i := range many {
		s := &soul{name: i, w: w}
		for range many {
			s.roads = append(s.roads, &road{window: newWindow(), arrived: map[int]bool{}})
		}
		w.souls = append(w.souls, s)
	}
	return w
}

// put lets letters go out.
func (w *world) put(list ...*letter) {
	for _, l := range list {
		if len(w.under) < 4096 {
			w.under = append(w.under, l)
		}
	}
}

// enter comes to an epoch, at the leaf that the soul has there.
func (s *soul) enter(e *epoch) {
	s.at, s.leaf, s.cached = e, e.leafOf(s.name), nil
	h := held{e: e, leaf: s.leaf}
	for range e.names {
		h.chains = append(h.chains, &chain{window: newWindow()})
	}
	s.box = append(s.box, h)
	if len(s.box) > 4 {
		s.box = s.box[1:]
	}
}

// heed goes where a commit of this epoch leads.
func (s *soul) heed(c *ending) error {
	if c.of != s.at {
		return api.ErrEpoch
	}
	if c.from == s.leaf {
		return api.ErrMember
	}
	if c.next.leafOf(s.name) < 0 {
		s.at, s.wiped, s.box, s.later, s.cached = nil, true, nil, nil, nil
		return nil
	}
	s.enter(c.next)
	return nil
}

// catchUp tries what was kept for later.
func (s *soul) catchUp() {
	for s.at != nil {
		now, list := s.at.number, s.later
		s.later = nil
		for _, c := range list {
			if c.of.number > now {
				s.later = append(s.later, c)
			}
		}
		on := false
		for _, c := range list {
			if !on && c.of.number == now {
				on = s.heed(c) == nil
			}
		}
		if !on {
			return
		}
	}
}

// handle takes another one's commit.
func (s *soul) handle(c *ending) error {
	switch {
	case s.at == nil:
		return api.ErrState
	case c.of.group != s.at.group || c.of.number < s.at.number:
		return api.ErrEpoch
	case c.of.number > s.at.number:
		if slices.Contains(s.later, c) {
			return api.ErrReplay
		}
		if len(s.later) == 32 {
			return api.ErrFull
		}
		s.later = append(s.later, c)
		return nil
	}
	if err := s.heed(c); err != nil {
		return err
	}
	s.catchUp()
	return nil
}

// cache takes a proposal.
func (s *soul) cache(p proposal) error {
	switch {
	case s.at == nil:
		return api.ErrState
	case p.of != s.at:
		return api.ErrEpoch
	case p.kind == api.Add && s.at.leafOf(p.about) >= 0:
		return api.ErrMember
	case slices.Contains(s.cached, p):
		return api.ErrReplay
	case len(s.cached) == 32:
		return api.ErrFull
	}
	s.cached = append(s.cached, p)
	return nil
}

// open opens a packet.
func (s *soul) open(p *parcel) (given, error) {
	if len(s.box) == 0 {
		return given{}, api.ErrState
	}
	for _, h := range s.box {
		if h.e.group != p.of.group || h.e.number != p.of.number {
			continue
		}
		if p.from == h.leaf || p.from >= len(h.chains) {
			return given{}, api.ErrMember
		}
		c := h.chains[p.from]
		if err := c.check(p.number); err != nil {
			return given{}, err
		}
		if h.e != p.of || p.jumped {
			return given{}, api.ErrAuth
		}
		c.take(p.number)
		return given{h.e.names[p.from], h.e.number, p.text}, nil
	}
	return given{}, api.ErrEpoch
}
