package vault_test

import (
	"crypto/aes"
	"crypto/cipher"
	"crypto/hmac"
	"crypto/sha256"
	"errors"
	"math"
	"math/rand"
	"strings"
	"testing"

	"speakeasy/api"
	"speakeasy/store"
	"speakeasy/vault"
)

// mac is HMAC-SHA-256 of the standard library.
func mac(key, s string) string {
	h := hmac.New(sha256.New, []byte(key))
	h.Write([]byte(s))
	return string(h.Sum(nil))
}

// seal returns any bytes sealed, as the document says it, with the standard library.
func seal(t *testing.T, key string, gen uint64, b string) string {
	t.Helper()
	c, err := aes.NewCipher([]byte(mac(key, "seal\x01")))
	if err != nil {
		t.Fatal(err)
	}
	out := make([]byte, len(b))
	cipher.NewCTR(c, []byte(u64(gen)+u64(0))).XORKeyStream(out, []byte(b))
	s := u64(gen) + string(out)
	return s + mac(mac(key, "sum\x01"), s)
}

// some returns a store of two tenants.
func some(t *testing.T) *store.Store {
	t.Helper()
	return storeOf(t, entry{"web", [][32]byte{key(2), key(1)}}, entry{"a", [][32]byte{key(3)}})
}

var gens = []uint64{0, 1, 2, 255, 256, 1 << 32, 1<<63 - 1, 1 << 63, math.MaxUint64 - 1, math.MaxUint64}

// P28.1: Seal, with keys of all lengths, all kinds of generations, and stores of all
// sizes, nil among them.
func TestSeal(t *testing.T) {
	stores := []*store.Store{nil, store.New(3, 3), some(t), full(t)}
	keys := []string{"", "\x00", "key", strings.Repeat("k", 32), strings.Repeat("k", 64), strings.Repeat("k", 65), strings.Repeat("\xff", 300)}
	for i, s := range stores {
		for j, k := range keys {
			gen := gens[(3*i+j)%len(gens)]
			if vault.Seal(k, gen, s) != seal(t, k, gen, vault.Bytes(s)) {
				t.Errorf("store %d, key %d, generation %d: not what the document says", i, j, gen)
			}
		}
	}
	for _, gen := range gens {
		if vault.Seal("key", gen, stores[2]) != seal(t, "key", gen, vault.Bytes(stores[2])) {
			t.Errorf("generation %d: not what the document says", gen)
		}
	}
}

// P28.1: sealing changes nothing, and one store is always sealed in the same way.
func TestSealAgain(t *testing.T) {
	s := some(t)
	before := entries(s)
	first := vault.Seal("key", 5, s)
	vault.Seal("other", 6, s)
	if vault.Seal("key", 5, s) != first || !sameEntries(entries(s), before) {
		t.Error("sealed otherwise the second time")
	}
}

// P28.2: with the same key, the same tenants and keys; and the generation.
func TestOpen(t *testing.T) {
	for _, k := range []string{"", "key", strings.Repeat("long", 40)} {
		for i, s := range []*store.Store{nil, store.New(0, 0), some(t), full(t)} {
			for _, gen := range []uint64{0, 7, math.MaxUint64} {
				got, n, err := vault.Open(k, gen, vault.Seal(k, gen, s), 64, 64)
				if err != nil || got == nil || n != gen {
					t.Fatalf("store %d, generation %d: %d, %v", i, gen, n, err)
				}
				if s != nil && !sameEntries(entries(got), entries(s)) || s == nil && len(got.Tenants()) > 0 {
					t.Errorf("store %d is opened otherwise", i)
				}
			}
		}
	}
}

// P28.1: the store that was opened has the limits that Open is given, and is one of its own.
func TestOpenLimits(t *testing.T) {
	sealed := vault.Seal("key", 1, some(t))
	s, _, err := vault.Open("key", 0, sealed, 2, 2)
	if err != nil {
		t.Fatal(err)
	}
	if s.Add("b", key(9)) != api.ErrFull || s.Add("web", key(9)) != api.ErrQuota || s.Add("a", key(9)) != nil {
		t.Error("other limits")
	}
	if other, _, err := vault.Open("key", 0, sealed, 2, 2); err != nil || len(other.Keys("a")) != 1 {
		t.Errorf("opened once more: %v", err)
	}
	for _, v := range []struct {
		tenants, keys int
		want          error
	}{{1, 2, api.ErrFull}, {2, 1, api.ErrQuota}, {0, 0, api.ErrFull}, {-1, 64, api.ErrFull}, {64, -1, api.ErrQuota}} {
		if s, gen, err := vault.Open("key", 0, sealed, v.tenants, v.keys); !fails(s, err, v.want, "vault") || gen != 0 {
			t.Errorf("%d tenants, %d keys: %d, %v", v.tenants, v.keys, gen, err)
		}
	}
}

// tooOld tells whether there is no store because its generation is too low.
func tooOld(s *store.Store, gen uint64, err error) bool {
	return gen == 0 && fails(s, err, api.ErrVersion, "generation")
}

// P28.1: generations less than the least that is accepted, that one, and greater ones.
func TestOpenLeast(t *testing.T) {
	for _, gen := range gens {
		sealed := vault.Seal("key", gen, some(t))
		for _, least := range gens {
			s, n, err := vault.Open("key", least, sealed, 4, 4)
			if gen < least {
				if !tooOld(s, n, err) {
					t.Errorf("generation %d, at least %d: %d, %v", gen, least, n, err)
				}
			} else if s == nil || n != gen || err != nil {
				t.Errorf("generation %d, at least %d: %d, %v", gen, least, n, err)
			}
		}
	}
}

// P28.1, P28.4: bytes that were sealed, but are no store; which error comes first.
func TestOpenOtherBytes(t *testing.T) {
	for _, v := range []struct {
		b    string
		want error
	}{
		{"", api.ErrEnd},
		{u32(1), api.ErrEnd},
		{u32(0) + "x", api.ErrForm},
		{u32(1) + tenant("a"), api.ErrForm},
		{u32(1) + tenant(strings.Repeat("a", 64), key(1)), api.ErrBig},
		{u32(1) + tenant("A", key(1)), api.ErrName},
		{u32(1) + tenant("a", key(1), key(1)), api.ErrHave},
		{u32(3) + tenant("a", key(1)) + tenant("b", key(2)) + tenant("c", key(3)), api.ErrFull},
		{u32(1) + tenant("a", key(1), key(2), key(3)), api.ErrQuota},
	} {
		sealed := seal(t, "key", 5, v.b)
		if s, gen, err := vault.Open("key", 5, sealed, 2, 2); !fails(s, err, v.want, "vault") || gen != 0 {
			t.Errorf("%x: %d, %v, not %v", v.b, gen, err, v.want)
		}
		if s, gen, err := vault.Open("key", 6, sealed, 2, 2); !tooOld(s, gen, err) {
			t.Errorf("%x of generation 5, at least 6: %d, %v", v.b, gen, err)
		}
		if s, gen, err := vault.Open("yek", 6, sealed, 2, 2); !fails(s, err, api.ErrMac, "") || gen != 0 {
			t.Errorf("%x with another key: %d, %v", v.b, gen, err)
		}
	}
}

// P28.4: every bit changed, every length, and some bytes more.
func TestOpenChanged(t *testing.T) {
	sealed := vault.Seal("key", 5, some(t))
	for bit := range 8 * len(sealed) {
		c := []byte(sealed)
		c[bit/8] ^= 1 << (bit % 8)
		if s, gen, err := vault.Open("key", 5, string(c), 4, 4); !fails(s, err, api.ErrMac, "") || gen != 0 {
			t.Errorf("bit %d changed: %d, %v", bit, gen, err)
		}
	}
	for n := range len(sealed) {
		want := api.ErrMac
		if n < 40 {
			want = api.ErrEnd
		}
		if s, gen, err := vault.Open("key", 5, sealed[:n], 4, 4); !fails(s, err, want, "") || gen != 0 {
			t.Errorf("the first %d bytes: %d, %v", n, gen, err)
		}
		if s, gen, err := vault.Open("key", 0, sealed+sealed[:n+1], 4, 4); !fails(s, err, api.ErrMac, "") || gen != 0 {
			t.Errorf("%d bytes more: %d, %v", n+1, gen, err)
		}
	}
}

// P28.4: changed bytes of which the sum is another generation's, another store's or
// another key's.
func TestOpenMixed(t *testing.T) {
	a, b := vault.Seal("key", 5, some(t)), vault.Seal("key", 6, some(t))
	other := vault.Seal("yek", 5, some(t))
	end := len(a) - 32
	for i, s := range []string{a[:end] + b[end:], b[:8] + a[8:], a[:8] + b[8:end] + a[end:], a[:end] + other[end:], other} {
		if s, gen, err := vault.Open("key", 0, s, 4, 4); !fails(s, err, api.ErrMac, "") || gen != 0 {
			t.Errorf("mixture %d: %d, %v", i, gen, err)
		}
	}
}

// sealed is a sealed store, the only key of its tenant "t", and its generation; 0: it
// cannot be opened.
type sealed struct {
	b   string
	key int
	gen uint64
}

// later tells which of two sealed stores Later returns, as the document says it.
func later(a, b sealed) (sealed, error) {
	if a.key == 0 && b.key == 0 {
		return sealed{}, api.ErrNone
	}
	if a.key == 0 || b.key != 0 && b.gen > a.gen {
		return b, nil
	}
	return a, nil
}

func checkLater(t *testing.T, what string, a, b sealed) {
	t.Helper()
	s, gen, err := vault.Later("key", a.b, b.b, 1, 1)
	want, no := later(a, b)
	if err != no || gen != want.gen || (s == nil) != (no != nil) {
		t.Errorf("%s: %d, %v, not %d, %v", what, gen, err, want.gen, no)
		return
	}
	if s != nil && !sameEntries(entries(s), []entry{{"t", [][32]byte{key(want.key)}}}) {
		t.Errorf("%s: the store is another one", what)
	}
}

// P28.1: Later of all pairs of stores: of several generations, equal ones among them,
// and of what cannot be opened.
func TestLater(t *testing.T) {
	var l []sealed
	for i, gen := range append(gens, 1, 0, math.MaxUint64) {
		k := i + 1
		l = append(l, sealed{vault.Seal("key", gen, storeOf(t, entry{"t", [][32]byte{key(k)}})), k, gen})
	}
	good := l[3].b
	for _, b := range []string{
		"", "short", good[:len(good)-1], good + "x", "x" + good[1:], vault.Seal("yek", 9, storeOf(t, entry{"t", [][32]byte{key(9)}})),
		seal(t, "key", 1<<40, ""), seal(t, "key", 1<<40, u32(1)+tenant("T", key(9))),
		vault.Seal("key", 1<<40, some(t)), // beyond the limits
	} {
		l = append(l, sealed{b: b})
	}
	for i, a := range l {
		for j, b := range l {
			checkLater(t, "stores "+string(rune('A'+i))+" and "+string(rune('A'+j)), a, b)
		}
	}
}

// P28.3: of a later store any prefix was written, at either place.
func TestLaterCrash(t *testing.T) {
	old := sealed{vault.Seal("key", 8, storeOf(t, entry{"t", [][32]byte{key(1)}})), 1, 8}
	whole := sealed{vault.Seal("key", 9, storeOf(t, entry{"t", [][32]byte{key(2)}})), 2, 9}
	for n := range len(whole.b) + 1 {
		part := sealed{b: whole.b[:n]}
		if n == len(whole.b) {
			part = whole
		}
		checkLater(t, "a prefix behind", old, part)
		checkLater(t, "a prefix before", part, old)
	}
}

// P28.3, P28.4: the later store was partly written over an earlier one, or a bit of
// it changed.
func TestLaterChanged(t *testing.T) {
	old := sealed{vault.Seal("key", 8, storeOf(t, entry{"t", [][32]byte{key(1)}})), 1, 8}
	elder := vault.Seal("key", 7, storeOf(t, entry{"t", [][32]byte{key(3)}}))
	whole := vault.Seal("key", 9, storeOf(t, entry{"t", [][32]byte{key(2)}}))
	for n := range len(whole) {
		checkLater(t, "a prefix over another store", old, sealed{b: whole[:n] + elder[n:]})
	}
	for bit := range 8 * len(whole) {
		c := []byte(whole)
		c[bit/8] ^= 1 << (bit % 8)
		checkLater(t, "a changed bit", old, sealed{b: string(c)})
		checkLater(t, "a changed bit", sealed{b: string(c)}, old)
	}
}

// P28.1: random stores, keys, generations and limits, there and back.
func TestRandom(t *testing.T) {
	r := rand.New(rand.NewSource(284))
	for range 300 {
		s := store.New(64, 64)
		for range r.Intn(12) {
			s.Add(string(rune('a'+r.Intn(5))), key(r.Intn(20)))
			s.Revoke(key(r.Intn(20)))
		}
		k, gen, least := strings.Repeat("k", r.Intn(80)), r.Uint64()>>r.Intn(64), r.Uint64()>>r.Intn(64)
		tenants, keys := r.Intn(5), r.Intn(5)
		b := vault.Seal(k, gen, s)
		want, no := modelRead(vault.Bytes(s), tenants, keys)
		got, n, err := vault.Open(k, least, b, tenants, keys)
		switch {
		case gen < least:
			if !tooOld(got, n, err) {
				t.Fatalf("generation %d, at least %d: %d, %v", gen, least, n, err)
			}
		case no != nil:
			if n != 0 || !fails(got, err, no, "vault") {
				t.Fatalf("%d tenants, %d keys: %d, %v, not %v", tenants, keys, n, err, no)
			}
		case err != nil || n != gen || !sameEntries(entries(got), want):
			t.Fatalf("generation %d: %d, %v", gen, n, err)
		}
		if _, _, err := vault.Open(k+"x", least, b, tenants, keys); !errors.Is(err, api.ErrMac) {
			t.Fatalf("another key: %v", err)
		}
	}
}
