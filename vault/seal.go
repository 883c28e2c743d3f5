package vault

import (
	"speakeasy/aes"
	"speakeasy/api"
	"speakeasy/hmac"
	"speakeasy/store"
	"speakeasy/wire"
)

const (
	genSize = 8
	sumSize = 32
)

// Seal returns the generation, the encrypted store, and the sum of both.
func Seal(key string, gen uint64, s *store.Store) string {
	var o wire.Out
	sealed := o.U64(gen).Raw(encrypt(key, gen, Bytes(s))).Bytes()
	return sealed + sumOf(key, sealed)
}

// Open reverses Seal, unless the generation is less than the least that is accepted.
func Open(key string, least uint64, b string, tenants, keys int) (*store.Store, uint64, error) {
	if len(b) < genSize+sumSize {
		return nil, 0, api.ErrEnd
	}
	sealed, sum := b[:len(b)-sumSize], b[len(b)-sumSize:]
	if !hmac.Same(sum, sumOf(key, sealed)) {
		return nil, 0, api.ErrMac
	}
	gen := wire.Of(sealed).U64()
	if gen < least {
		return nil, 0, api.Wrap("generation", api.ErrVersion)
	}
	s, err := Read(encrypt(key, gen, sealed[genSize:]), tenants, keys)
	if err != nil {
		return nil, 0, err
	}
	return s, gen, nil
}

// Later opens two sealed stores and returns that of the greater generation, or the
// only one that can be opened.
func Later(key, a, b string, tenants, keys int) (*store.Store, uint64, error) {
	first, firstGen, firstErr := Open(key, 0, a, tenants, keys)
	second, secondGen, secondErr := Open(key, 0, b, tenants, keys)
	switch {
	case firstErr != nil && secondErr != nil:
		return nil, 0, api.ErrNone
	case firstErr != nil, secondErr == nil && secondGen > firstGen:
		return second, secondGen, nil
	}
	return first, firstGen, nil
}

// encrypt xors s with the key stream of a generation, and so decrypts it as well.
func encrypt(key string, gen uint64, s string) string {
	// New accepts a key of this size.
	c, _ := aes.New(hmac.Spread(key, "seal", keySize))
	var o wire.Out
	var counter [16]byte
	copy(counter[:], o.U64(gen).Bytes())
	return c.Xor(counter, s)
}

func sumOf(key, s string) string {
	sum := hmac.Sum(hmac.Spread(key, "sum", keySize), s)
	return string(sum[:])
}
