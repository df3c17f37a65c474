package commit_test

import (
	"bytes"
	"errors"
	"math"
	"math/rand"
	"testing"

	"burrow/aead"
	"burrow/api"
	"burrow/box"
	"burrow/commit"
	"burrow/kdf"
	"burrow/ladder"
	"burrow/sign"
	"burrow/wire"
)

type source struct{ *rand.Rand }

func sourceOf(seed int64) source { return source{rand.New(rand.NewSource(seed))} }

func (s source) key() (k api.Key) {
	s.Read(k[:])
	return k
}

func (s source) text(n int) []byte {
	b := make([]byte, n)
	s.Read(b)
	return b
}

func (s source) node() api.Node {
	return api.Node{Used: true, Name: s.Intn(256), Key: s.key(), Sign: s.key(), Parent: api.Sum(s.key()), Unmerged: []int{1, 5}}
}

func (s source) commit() api.Commit {
	c := api.Commit{Group: api.Sum(s.key()), Epoch: s.Intn(1 << 32), From: s.Intn(32), Base: api.Sum(s.key()), Tag: api.Sum(s.key())}
	s.Read(c.Sig[:])
	for range s.Intn(3) {
		c.Proposals = append(c.Proposals, api.Proposal{Kind: api.Add, Leaf: s.node(), Start: s.key()}, api.Proposal{Kind: api.Remove, At: 3})
	}
	c.Path.Leaf = s.node()
	for range s.Intn(6) {
		c.Path.Steps = append(c.Path.Steps, api.Step{Key: s.key(), Sealed: [][]byte{s.text(80), s.text(10)}})
	}
	return c
}

func (s source) info() api.Info {
	x := api.Info{Group: api.Sum(s.key()), Epoch: s.Intn(1 << 32), Confirm: api.Sum(s.key()), Tag: api.Sum(s.key()), From: s.Intn(32)}
	for range 2<<s.Intn(4) - 1 {
		x.Nodes = append(x.Nodes, s.node())
	}
	s.Read(x.Sig[:])
	return x
}

func commitBytes(t *testing.T, c api.Commit) []byte {
	t.Helper()
	b, err := wire.PutCommit(c)
	if err != nil {
		t.Fatal(err)
	}
	return b
}

func infoBytes(t *testing.T, x api.Info) []byte {
	t.Helper()
	b, err := wire.PutInfo(x)
	if err != nil {
		t.Fatal(err)
	}
	return b
}

func TestCommits(t *testing.T) {
	s := sourceOf(1)
	for range 20 {
		c, seed := s.commit(), s.key()
		all := commitBytes(t, c)
		text, err := commit.Text(c)
		if err != nil || !bytes.Equal(text, all[:len(all)-96]) {
			t.Fatal("text", err)
		}
		got, err := commit.Sign(c, seed)
		want := c
		want.Sig = sign.Sign(seed, []byte{1}, text)
		if err != nil || !bytes.Equal(commitBytes(t, got), commitBytes(t, want)) {
			t.Fatal("sign", err)
		}
		public := sign.Public(seed)
		if !commit.Verify(got, public) || commit.Verify(c, public) || commit.Verify(got, s.key()) || commit.Verify(got, sign.Public(s.key())) {
			t.Fatal("verify")
		}
		other := got
		other.Tag = api.Sum(s.key())
		if !commit.Verify(other, public) {
			t.Error("the tag isn't signed")
		}
		for i, change := range []func(c *api.Commit){
			func(c *api.Commit) { c.Group[31]++ },
			func(c *api.Commit) { c.Epoch ^= 1 },
			func(c *api.Commit) { c.From ^= 1 },
			func(c *api.Commit) { c.Base[0]++ },
			func(c *api.Commit) { c.Proposals = append(c.Proposals[:0:0], api.Proposal{Kind: api.Remove}) },
			func(c *api.Commit) { c.Path.Leaf.Name ^= 1 },
			func(c *api.Commit) { c.Path.Steps = append(c.Path.Steps[:0:0], api.Step{Key: api.Key{1}}) },
			func(c *api.Commit) { c.Sig[0]++ },
			func(c *api.Commit) { c.Sig[63] ^= 1 },
			func(c *api.Commit) { c.Sig = sign.Sign(seed, text) },
			func(c *api.Commit) { c.Sig = sign.Sign(seed, []byte{2}, text) },
			func(c *api.Commit) { c.From = 32 },
			func(c *api.Commit) { c.Epoch = -1 },
		} {
			bad := got
			change(&bad)
			if commit.Verify(bad, public) {
				t.Error("changed", i)
			}
		}
	}
}

func TestCommitsThatCantBeWritten(t *testing.T) {
	s := sourceOf(2)
	for i, change := range []func(c *api.Commit){
		func(c *api.Commit) { c.From = -1 },
		func(c *api.Commit) { c.From = 32 },
		func(c *api.Commit) { c.Epoch = 1 << 32 },
		func(c *api.Commit) { c.Proposals = append(c.Proposals, api.Proposal{}) },
		func(c *api.Commit) { c.Path.Steps = make([]api.Step, 6) },
		func(c *api.Commit) { c.Path.Leaf.Unmerged = []int{2, 2} },
		func(c *api.Commit) { c.Path.Steps = []api.Step{{Sealed: [][]byte{make([]byte, 1<<16)}}} },
	} {
		c := s.commit()
		change(&c)
		if b, err := commit.Text(c); !errors.Is(err, api.ErrForm) || b != nil {
			t.Error("text", i, err)
		}
		if d, err := commit.Sign(c, s.key()); !errors.Is(err, api.ErrForm) || !bytes.Equal(commitBytes(t, d), commitBytes(t, api.Commit{})) {
			t.Error("sign", i, err)
		}
		if commit.Verify(c, sign.Public(s.key())) {
			t.Error("verify", i)
		}
	}
}

func TestInfos(t *testing.T) {
	s := sourceOf(3)
	for range 20 {
		x, seed := s.info(), s.key()
		all := infoBytes(t, x)
		text, err := commit.InfoText(x)
		if err != nil || !bytes.Equal(text, all[:len(all)-64]) {
			t.Fatal("text", err)
		}
		got, err := commit.SignInfo(x, seed)
		want := x
		want.Sig = sign.Sign(seed, []byte{2}, text)
		if err != nil || !bytes.Equal(infoBytes(t, got), infoBytes(t, want)) {
			t.Fatal("sign", err)
		}
		public := sign.Public(seed)
		if !commit.VerifyInfo(got, public) || commit.VerifyInfo(x, public) || commit.VerifyInfo(got, sign.Public(s.key())) {
			t.Fatal("verify")
		}
		for i, change := range []func(x *api.Info){
			func(x *api.Info) { x.Group[31]++ },
			func(x *api.Info) { x.Epoch ^= 1 },
			func(x *api.Info) { x.Nodes = api.Tree{{}} },
			func(x *api.Info) { x.Confirm[0]++ },
			func(x *api.Info) { x.Tag[31]++ },
			func(x *api.Info) { x.From ^= 1 },
			func(x *api.Info) { x.Sig[0]++ },
			func(x *api.Info) { x.Sig = sign.Sign(seed, []byte{1}, text) },
			func(x *api.Info) { x.Sig = sign.Sign(seed, text) },
			func(x *api.Info) { x.From = 32 },
			func(x *api.Info) { x.Nodes = nil },
		} {
			bad := got
			change(&bad)
			if commit.VerifyInfo(bad, public) {
				t.Error("changed", i)
			}
		}
	}
	for i, x := range []api.Info{{}, {Nodes: make(api.Tree, 2)}, {Nodes: api.Tree{{}}, From: 32}, {Nodes: api.Tree{{}}, Epoch: -1}, {Nodes: api.Tree{{Name: 1}}}} {
		if b, err := commit.InfoText(x); !errors.Is(err, api.ErrForm) || b != nil {
			t.Error("text", i, err)
		}
		if y, err := commit.SignInfo(x, s.key()); !errors.Is(err, api.ErrForm) || y.Nodes != nil || y.Sig != (api.Wide{}) {
			t.Error("sign", i, err)
		}
		if commit.VerifyInfo(x, sign.Public(s.key())) {
			t.Error("verify", i)
		}
	}
}

// welcomed is a welcome, by the definition.
func welcomed(t *testing.T, name int, start, draw api.Key, joiner api.Sum, x api.Info, path []byte) api.Welcome {
	t.Helper()
	sealed, err := box.Seal(start, draw, []byte("welcome"), append(bytes.Clone(joiner[:]), path...))
	if err != nil {
		t.Fatal(err)
	}
	info, err := aead.Seal(api.Key(kdf.Derive(joiner, "welcome")), make([]byte, 12), []byte{byte(name)}, infoBytes(t, x))
	if err != nil {
		t.Fatal(err)
	}
	return api.Welcome{Name: name, Sealed: sealed, Info: info}
}

func sameWelcome(a, b api.Welcome) bool {
	return a.Name == b.Name && bytes.Equal(a.Sealed, b.Sealed) && bytes.Equal(a.Info, b.Info)
}

func TestWelcomes(t *testing.T) {
	s := sourceOf(4)
	for _, name := range []int{0, 1, 9, 254, 255} {
		for many := range 2 {
			start, draw, joiner, x := ladder.New(s.key()), s.key(), api.Sum(s.key()), s.info()
			path := []api.Sum{api.Sum(s.key())}[:many]
			want := welcomed(t, name, start.Public, draw, joiner, x, nil)
			if many == 1 {
				want = welcomed(t, name, start.Public, draw, joiner, x, path[0][:])
			}
			w, err := commit.Welcome(name, start.Public, draw, joiner, x, path...)
			if err != nil || !sameWelcome(w, want) {
				t.Fatal("welcome", name, many, err)
			}
			o, err := commit.Open(w, start)
			if err != nil || o.Joiner != joiner || o.Has != (many == 1) || !bytes.Equal(infoBytes(t, o.Info), infoBytes(t, x)) {
				t.Fatal("open", name, many, err)
			}
			if many == 1 && o.Path != path[0] || many == 0 && o.Path != (api.Sum{}) {
				t.Fatal("path secret", many)
			}
		}
	}
}

func TestWelcomeErrors(t *testing.T) {
	s := sourceOf(5)
	start, x := ladder.New(s.key()), s.info()
	refuse := func(what string, want error, w api.Welcome, err error) {
		t.Helper()
		if !errors.Is(err, want) || w.Name != 0 || w.Sealed != nil || w.Info != nil {
			t.Error(what, err)
		}
	}
	for _, name := range []int{-1, 256, math.MinInt, math.MaxInt, 1 << 32} {
		w, err := commit.Welcome(name, start.Public, s.key(), api.Sum{1}, x)
		refuse("name", api.ErrForm, w, err)
		w, err = commit.Welcome(name, api.Key{}, s.key(), api.Sum{1}, x)
		refuse("name and start key", api.ErrForm, w, err)
	}
	for many := 2; many < 5; many++ {
		w, err := commit.Welcome(1, start.Public, s.key(), api.Sum{1}, x, make([]api.Sum, many)...)
		refuse("paths", api.ErrForm, w, err)
		w, err = commit.Welcome(1, api.Key{}, s.key(), api.Sum{1}, x, make([]api.Sum, many)...)
		refuse("paths and start key", api.ErrForm, w, err)
	}
	bad := x
	bad.From = 32
	w, err := commit.Welcome(1, start.Public, s.key(), api.Sum{1}, bad)
	refuse("info", api.ErrForm, w, err)
	w, err = commit.Welcome(1, api.Key{}, s.key(), api.Sum{1}, bad)
	refuse("info and start key", api.ErrForm, w, err)
	w, err = commit.Welcome(1, api.Key{}, s.key(), api.Sum{1}, x)
	refuse("start key", api.ErrRange, w, err)
}

func TestOpenErrors(t *testing.T) {
	s := sourceOf(6)
	start, draw, joiner, x := ladder.New(s.key()), s.key(), api.Sum(s.key()), s.info()
	good := welcomed(t, 7, start.Public, draw, joiner, x, nil)
	refuse := func(what string, want error, w api.Welcome, start api.Pair) {
		t.Helper()
		o, err := commit.Open(w, start)
		if !errors.Is(err, want) || o.Has || o.Joiner != (api.Sum{}) || o.Path != (api.Sum{}) || o.Info.Nodes != nil || o.Info.Group != (api.Sum{}) {
			t.Error(what, err)
		}
	}
	with := func(change func(w *api.Welcome)) api.Welcome {
		w := good
		w.Sealed, w.Info = bytes.Clone(w.Sealed), bytes.Clone(w.Info)
		change(&w)
		return w
	}
	refuse("sealed for another", api.ErrAuth, good, ladder.New(s.key()))
	refuse("another public key", api.ErrAuth, good, api.Pair{Secret: start.Secret, Public: s.key()})
	for _, i := range []int{0, 31, 32, 63, 64, len(good.Sealed) - 1} {
		refuse("sealed", api.ErrAuth, with(func(w *api.Welcome) { w.Sealed[i] ^= 1 }), start)
	}
	refuse("sealed, zeros", api.ErrRange, with(func(w *api.Welcome) { clear(w.Sealed[:32]) }), start)
	for _, n := range []int{0, 47, 1<<16 + 49} {
		refuse("sealed of a length", api.ErrLen, with(func(w *api.Welcome) { w.Sealed = make([]byte, n) }), start)
	}
	for _, n := range []int{0, 1, 31, 33, 63, 65, 96} {
		refuse("secrets of a length", api.ErrForm, with(func(w *api.Welcome) {
			w.Sealed, _ = box.Seal(start.Public, draw, []byte("welcome"), s.text(n))
			w.Info = nil
		}), start)
	}
	refuse("another label", api.ErrAuth, with(func(w *api.Welcome) {
		w.Sealed, _ = box.Seal(start.Public, draw, []byte("hello"), joiner[:])
	}), start)
	for _, i := range []int{0, 40, len(good.Info) - 1} {
		refuse("info", api.ErrAuth, with(func(w *api.Welcome) { w.Info[i] ^= 1 }), start)
	}
	for _, n := range []int{0, 1, 15} {
		refuse("short info", api.ErrAuth, with(func(w *api.Welcome) { w.Info = w.Info[:n] }), start)
	}
	refuse("long info", api.ErrLen, with(func(w *api.Welcome) { w.Info = make([]byte, 1<<20+17) }), start)
	refuse("another name", api.ErrAuth, with(func(w *api.Welcome) { w.Name = 8 }), start)
	key := api.Key(kdf.Derive(joiner, "welcome"))
	for _, b := range [][]byte{nil, s.text(100), append(infoBytes(t, x), 0), infoBytes(t, x)[1:]} {
		sealed, _ := aead.Seal(key, make([]byte, 12), []byte{7}, b)
		refuse("no info", api.ErrForm, with(func(w *api.Welcome) { w.Info = sealed }), start)
	}
	for _, name := range []int{7 + 256, 7 - 256, 7 + 1<<32} {
		w := with(func(w *api.Welcome) { w.Name = name })
		if o, err := commit.Open(w, start); err != nil || o.Joiner != joiner {
			t.Error("only the lowest byte of the name counts", name, err)
		}
	}
}

func TestArgumentsStay(t *testing.T) {
	s := sourceOf(7)
	c, x := s.commit(), s.info()
	for len(c.Proposals) == 0 || len(c.Path.Steps) == 0 {
		c = s.commit()
	}
	kept, keptInfo := commitBytes(t, c), infoBytes(t, x)
	signed, err := commit.Sign(c, s.key())
	signedInfo, err2 := commit.SignInfo(x, s.key())
	start := ladder.New(s.key())
	w, err3 := commit.Welcome(1, start.Public, s.key(), api.Sum{1}, x, api.Sum{2})
	o, err4 := commit.Open(w, start)
	if errors.Join(err, err2, err3, err4) != nil || !bytes.Equal(commitBytes(t, c), kept) || !bytes.Equal(infoBytes(t, x), keptInfo) {
		t.Fatal("an argument was changed", err, err2, err3, err4)
	}
	wantCommit, wantInfo, wantOpened := commitBytes(t, signed), infoBytes(t, signedInfo), infoBytes(t, o.Info)
	c.Proposals[0].Leaf.Unmerged[0] = 0
	c.Proposals[1].At = 9
	c.Path.Leaf.Unmerged[0] = 0
	c.Path.Steps[0].Key = api.Key{}
	clear(c.Path.Steps[0].Sealed[0])
	c.Path.Steps[0].Sealed[1] = nil
	x.Nodes[0].Unmerged[0] = 0
	x.Nodes[0].Name = 3
	clear(w.Info)
	clear(w.Sealed)
	if !bytes.Equal(commitBytes(t, signed), wantCommit) || !bytes.Equal(infoBytes(t, signedInfo), wantInfo) || !bytes.Equal(infoBytes(t, o.Info), wantOpened) {
		t.Error("a result shares with an argument")
	}
}
