package cipher

import (
	"burrow/aead"
	"burrow/api"
	"burrow/kdf"
	"burrow/sha"
)

// State is what both sides of a handshake have mixed in so far.
type State struct {
	cipher
	chain, hash api.Sum
}

// Begin returns a state that begins with a name.
func Begin(name string) *State {
	first := sha.Short([]byte(name))
	return &State{chain: first, hash: first}
}

// Has reports whether the cipher has a key.
func (s *State) Has() bool {
	return s != nil && s.has
}

// Number returns the cipher's number.
func (s *State) Number() int {
	if s == nil {
		return 0
	}
	return s.number
}

// Jump sets the cipher's number, if the given one isn't less, and reports whether it did.
func (s *State) Jump(number int) bool {
	return s != nil && s.jump(number)
}

// MixText mixes in the parts, one after another, as one text.
func (s *State) MixText(parts ...[]byte) {
	if s == nil {
		return
	}
	d := sha.New()
	d.Add(s.hash[:])
	for _, part := range parts {
		d.Add(part)
	}
	s.hash = d.Sum()
}

// MixSecret mixes in a secret.
func (s *State) MixSecret(secret []byte) {
	if s == nil {
		return
	}
	mixed := kdf.Extract(s.chain[:], secret)
	chain, key := two(mixed)
	s.chain = api.Sum(chain)
	s.cipher = cipher{key: key, has: true}
}

// two are the keys that a secret is expanded to.
func two(secret api.Sum) (api.Key, api.Key) {
	b, err := kdf.Expand(secret[:], nil, 64)
	if err != nil {
		return api.Key{}, api.Key{}
	}
	return api.Key(b[:32]), api.Key(b[32:])
}

// Hide hides a text, and mixes in the result.
func (s *State) Hide(text []byte) ([]byte, error) {
	if s == nil {
		return nil, api.ErrUsedUp
	}
	out, err := s.work(aead.Seal, s.hash[:], text)
	if err != nil {
		return nil, err
	}
	s.MixText(out)
	return out, nil
}

// Show shows a hidden text, and mixes in what was hidden.
func (s *State) Show(sealed []byte) ([]byte, error) {
	if s == nil {
		return nil, api.ErrUsedUp
	}
	out, err := s.work(aead.Open, s.hash[:], sealed)
	if err != nil {
		return nil, err
	}
	s.MixText(sealed)
	return out, nil
}

// Hash returns the hash.
func (s *State) Hash() api.Sum {
	if s == nil {
		return api.Sum{}
	}
	return s.hash
}

// Split returns the two keys.
func (s *State) Split() (api.Key, api.Key) {
	if s == nil {
		return api.Key{}, api.Key{}
	}
	return two(s.chain)
}
