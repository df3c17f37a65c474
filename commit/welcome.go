package commit

import (
	"burrow/aead"
	"burrow/api"
	"burrow/box"
	"burrow/kdf"
	"burrow/wire"
)

const (
	label   = "welcome"
	maxName = 255
	sumSize = len(api.Sum{})
)

// Opened is what a welcome is opened to.
type Opened struct {
	Joiner api.Sum
	Has    bool // whether there is a path secret
	Path   api.Sum
	Info   api.Info
}

// Welcome returns the welcome for a name, with a path secret or without one.
func Welcome(name int, start, draw api.Key, joiner api.Sum, x api.Info, path ...api.Sum) (api.Welcome, error) {
	info, err := wire.PutInfo(x)
	if name < 0 || name > maxName || err != nil || len(path) > 1 {
		return api.Welcome{}, api.ErrForm
	}
	secrets := joiner[:]
	for _, secret := range path {
		secrets = append(secrets, secret[:]...)
	}
	sealed, err := box.Seal(start, draw, []byte(label), secrets)
	if err != nil {
		return api.Welcome{}, err
	}
	hidden, err := aead.Seal(keyOf(joiner), aead.Nonce(0), []byte{byte(name)}, info)
	if err != nil {
		return api.Welcome{}, err
	}
	w := api.Welcome{Name: name, Sealed: sealed, Info: hidden}
	if _, err := wire.PutWelcome(w); err != nil {
		return api.Welcome{}, err
	}
	return w, nil
}

// keyOf is the key that an info is sealed with.
func keyOf(joiner api.Sum) api.Key {
	return api.Key(kdf.Derive(joiner, label))
}

// Open returns what a welcome is opened to.
func Open(w api.Welcome, start api.Pair) (Opened, error) {
	secrets, err := box.Open(start, []byte(label), w.Sealed)
	if err != nil {
		return Opened{}, err
	}
	if len(secrets) != sumSize && len(secrets) != 2*sumSize {
		return Opened{}, api.ErrForm
	}
	out := Opened{Joiner: api.Sum(secrets[:sumSize])}
	if len(secrets) > sumSize {
		out.Has, out.Path = true, api.Sum(secrets[sumSize:])
	}
	b, err := aead.Open(keyOf(out.Joiner), aead.Nonce(0), []byte{byte(w.Name)}, w.Info)
	if err != nil {
		return Opened{}, err
	}
	out.Info, err = wire.TakeInfo(b)
	if err != nil {
		return Opened{}, err
	}
	return out, nil
}
