package wire

import "burrow/api"

// writer collects bytes; it is bad from the first thing on that can't be written.
type writer struct {
	out []byte
	bad bool
}

func (w *writer) must(ok bool) {
	w.bad = w.bad || !ok
}

func (w *writer) raw(b []byte) {
	w.must(len(w.out)+len(b) <= api.MaxText)
	if !w.bad {
		w.out = append(w.out, b...)
	}
}

// number writes a number of so many bytes.
func (w *writer) number(n, size int) {
	w.must(n >= 0 && n>>(8*size) == 0)
	for size > 0 {
		size--
		w.raw([]byte{byte(n >> (8 * size))})
	}
}

func (w *writer) leaf(n int) {
	w.must(n < api.MaxMembers)
	w.number(n, 1)
}

func (w *writer) bytes(b []byte) {
	w.number(len(b), 2)
	w.raw(b)
}

// putList writes how many things there are, and these.
func putList[T any](w *writer, list []T, put func(*writer, T)) {
	w.number(len(list), 1)
	for _, x := range list {
		if w.bad {
			return
		}
		put(w, x)
	}
}

func (w *writer) node(n api.Node) {
	if n.Used {
		w.number(1, 1)
	} else {
		w.must(blank(n))
		w.number(0, 1)
	}
	w.number(n.Name, 1)
	w.raw(n.Key[:])
	w.raw(n.Sign[:])
	w.raw(n.Parent[:])
	w.must(rising(n.Unmerged))
	putList(w, n.Unmerged, (*writer).leaf)
}

func (w *writer) tree(t api.Tree) {
	w.must(treeSize(len(t)))
	putList(w, t, (*writer).node)
}

func (w *writer) proposal(p api.Proposal) {
	w.raw(p.Group[:])
	w.number(p.Epoch, 4)
	w.leaf(p.From)
	w.raw(p.Base[:])
	w.must(p.Kind >= api.Add && p.Kind <= api.Remove)
	w.number(p.Kind, 1)
	if p.Kind == api.Add || p.Kind == api.Update {
		w.node(p.Leaf)
	} else {
		w.must(blank(p.Leaf))
	}
	if p.Kind == api.Add {
		w.raw(p.Start[:])
	} else {
		w.must(p.Start == api.Key{})
	}
	if p.Kind == api.Remove {
		w.leaf(p.At)
	} else {
		w.must(p.At == 0)
	}
	w.raw(p.Sig[:])
}

func (w *writer) step(s api.Step) {
	w.raw(s.Key[:])
	putList(w, s.Sealed, (*writer).bytes)
}

func (w *writer) path(p api.Path) {
	w.node(p.Leaf)
	w.must(len(p.Steps) <= maxSteps)
	putList(w, p.Steps, (*writer).step)
}

func (w *writer) commit(c api.Commit) {
	w.raw(c.Group[:])
	w.number(c.Epoch, 4)
	w.leaf(c.From)
	w.raw(c.Base[:])
	putList(w, c.Proposals, (*writer).proposal)
	w.path(c.Path)
	w.raw(c.Tag[:])
	w.raw(c.Sig[:])
}

func (w *writer) info(x api.Info) {
	w.raw(x.Group[:])
	w.number(x.Epoch, 4)
	w.tree(x.Nodes)
	w.raw(x.Confirm[:])
	w.raw(x.Tag[:])
	w.leaf(x.From)
	w.raw(x.Sig[:])
}

func (w *writer) welcome(x api.Welcome) {
	w.number(x.Name, 1)
	w.bytes(x.Sealed)
	w.bytes(x.Info)
}

func (w *writer) packet(p api.Packet) {
	w.raw(p.Group[:])
	w.number(p.Epoch, 4)
	w.leaf(p.From)
	w.number(p.Number, 4)
	w.bytes(p.Sealed)
}
