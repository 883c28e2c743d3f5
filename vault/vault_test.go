package vault_test

import (
	"encoding/binary"
	"encoding/hex"
	"errors"
	"math"
	"math/rand"
	"slices"
	"strings"
	"testing"

	"speakeasy/api"
	"speakeasy/store"
	"speakeasy/vault"
)

func key(n int) [32]byte { return [32]byte{0: byte(n), 1: byte(n >> 8), 31: 0xee} }

// u32 and u64 are numbers as the document has them.
func u32(n int) string { return string(binary.BigEndian.AppendUint32(nil, uint32(n))) }

func u64(n uint64) string { return string(binary.BigEndian.AppendUint64(nil, n)) }

func text(s string) string { return u32(len(s)) + s }

// tenant is a serialized tenant.
func tenant(name string, keys ...[32]byte) string {
	s := text(name) + u32(len(keys))
	for _, k := range keys {
		s += string(k[:])
	}
	return s
}

// entry is a tenant of a store.
type entry struct {
	name string
	keys [][32]byte
}

// entries lists what a store holds.
func entries(s *store.Store) []entry {
	var l []entry
	for _, name := range s.Tenants() {
		l = append(l, entry{name, s.Keys(name)})
	}
	return l
}

func sameEntries(a, b []entry) bool {
	return slices.EqualFunc(a, b, func(x, y entry) bool { return x.name == y.name && slices.Equal(x.keys, y.keys) })
}

func storeOf(t *testing.T, l ...entry) *store.Store {
	t.Helper()
	s := store.New(64, 64)
	for _, e := range l {
		for _, k := range e.keys {
			if err := s.Add(e.name, k); err != nil {
				t.Fatal(err)
			}
		}
	}
	return s
}

// fails tells whether there is no store, but the given error from the given place.
func fails(s *store.Store, err, want error, where string) bool {
	return s == nil && errors.Is(err, want) && api.Where(err) == where && (where == "") == (err == want)
}

// P28.1: a nil store, an empty one, and the order of tenants and of keys.
func TestBytes(t *testing.T) {
	s := store.New(64, 64)
	for _, empty := range []*store.Store{nil, s, store.New(0, 0)} {
		if got := vault.Bytes(empty); got != "\x00\x00\x00\x00" {
			t.Errorf("an empty store: %x", got)
		}
	}
	s.Add("web", key(9))
	s.Add("a", key(5))
	s.Add("web", key(3))
	s.Add("b-1", key(1))
	s.Add("web", key(7))
	want := u32(3) + tenant("a", key(5)) + tenant("b-1", key(1)) + tenant("web", key(9), key(3), key(7))
	if got := vault.Bytes(s); got != want {
		t.Errorf("three tenants: %x, not %x", got, want)
	}
	s.Revoke(key(5))
	s.Revoke(key(9))
	want = u32(2) + tenant("b-1", key(1)) + tenant("web", key(3), key(7))
	if got := vault.Bytes(s); got != want {
		t.Errorf("after revoking: %x, not %x", got, want)
	}
	if got := vault.Bytes(s); got != want {
		t.Errorf("once more: %x", got)
	}
}

// P28.1: the layout, digit by digit.
func TestBytesDigits(t *testing.T) {
	s := store.New(1, 1)
	var k [32]byte
	for i := range k {
		k[i] = byte(0xa0 + i)
	}
	s.Add("dev", k)
	want := "00000001" + "00000003" + "646576" + "00000001" + "a0a1a2a3a4a5a6a7a8a9aaabacadaeafb0b1b2b3b4b5b6b7b8b9babbbcbdbebf"
	if got := hex.EncodeToString([]byte(vault.Bytes(s))); got != want {
		t.Errorf("%s, not %s", got, want)
	}
}

// full returns a store with as many tenants and keys as there may be.
func full(t *testing.T) *store.Store {
	t.Helper()
	s := store.New(64, 64)
	for n := range 64 {
		name := strings.Repeat(string(rune('a'+n%26)), 1+(n*37)%63) + string(rune('0'+n/26))
		for i := range 64 {
			if err := s.Add(name[max(0, len(name)-63):], key(64*n+(i*29)%64)); err != nil {
				t.Fatal(err)
			}
		}
	}
	return s
}

// P28.1: what Bytes returns, Read reads.
func TestReadBytes(t *testing.T) {
	for _, s := range []*store.Store{store.New(0, 0), full(t), storeOf(t, entry{"a", [][32]byte{key(1)}}, entry{strings.Repeat("a", 63), [][32]byte{key(0), {}}})} {
		got, err := vault.Read(vault.Bytes(s), 64, 64)
		if err != nil || got == nil {
			t.Fatalf("%d tenants: %v", len(s.Tenants()), err)
		}
		if !sameEntries(entries(got), entries(s)) {
			t.Errorf("%d tenants are read otherwise", len(s.Tenants()))
		}
	}
}

// P28.1: the errors of Read, and which of several comes first.
func TestReadErrors(t *testing.T) {
	long := strings.Repeat("a", 64)
	k := key(1)
	half := string(k[:31])
	for _, v := range []struct {
		what, b string
		want    error
	}{
		{"nothing", "", api.ErrEnd},
		{"three bytes", "\x00\x00\x00", api.ErrEnd},
		{"one tenant, but none follows", u32(1), api.ErrEnd},
		{"2^32 - 1 tenants, but none follows", u32(math.MaxUint32), api.ErrEnd},
		{"no tenant, but a byte", u32(0) + "x", api.ErrForm},
		{"no tenant, but one follows", u32(0) + tenant("a", k), api.ErrForm},
		{"one tenant, and a byte", u32(1) + tenant("a", k) + "\x00", api.ErrForm},
		{"two tenants, but one follows", u32(2) + tenant("a", k), api.ErrEnd},
		{"a name that is cut off", u32(1) + u32(5) + "abcd", api.ErrEnd},
		{"a name of 63 bytes that is cut off", u32(1) + u32(63) + "abcd", api.ErrEnd},
		{"a name of 64 bytes that is cut off", u32(1) + u32(64) + "abcd", api.ErrBig},
		{"a name of 64 bytes", u32(1) + tenant(long, k), api.ErrBig},
		{"a name of 2^32 - 1 bytes", u32(1) + u32(math.MaxUint32), api.ErrBig},
		{"a name without a number", u32(1) + text("a"), api.ErrEnd},
		{"a name with half a number", u32(1) + text("a") + "\x00\x00", api.ErrEnd},
		{"no name without a number", u32(1) + text(""), api.ErrEnd},
		{"no keys", u32(1) + tenant("a"), api.ErrForm},
		{"no keys, invalid name", u32(1) + tenant("A"), api.ErrForm},
		{"no keys, a byte behind", u32(1) + tenant("a") + "x", api.ErrForm},
		{"no keys of the second", u32(2) + tenant("a", k) + tenant("b"), api.ErrForm},
		{"the empty name", u32(1) + tenant("", k), api.ErrForm},
		{"the empty name, no key follows", u32(1) + text("") + u32(1), api.ErrForm},
		{"the same name twice", u32(2) + tenant("a", k) + tenant("a", key(2)), api.ErrForm},
		{"the same name twice, no key follows", u32(2) + tenant("a", k) + text("a") + u32(1), api.ErrForm},
		{"the same name twice, no number follows", u32(2) + tenant("a", k) + text("a"), api.ErrEnd},
		{"descending names", u32(2) + tenant("b", k) + tenant("a", key(2)), api.ErrForm},
		{"descending names, the longer first", u32(2) + tenant("ab", k) + tenant("a", key(2)), api.ErrForm},
		{"descending names behind ascending ones", u32(3) + tenant("a", k) + tenant("c", key(2)) + tenant("b", key(3)), api.ErrForm},
		{"a first name that returns", u32(3) + tenant("b", k) + tenant("c", key(2)) + tenant("b", key(3)), api.ErrForm},
		{"the empty name second", u32(2) + tenant("a", k) + tenant("", key(2)), api.ErrForm},
		{"a key that is missing", u32(1) + text("a") + u32(1), api.ErrEnd},
		{"a key that is cut off", u32(1) + text("a") + u32(1) + half, api.ErrEnd},
		{"a second key that is cut off", u32(1) + text("a") + u32(2) + string(k[:]) + half, api.ErrEnd},
		{"a key that is cut off, of an invalid name", u32(1) + text("A") + u32(1) + half, api.ErrEnd},
		{"2^32 - 1 keys", u32(1) + text("a") + u32(math.MaxUint32) + string(k[:]), api.ErrEnd},
		{"2^32 - 1 keys, two the same", u32(1) + text("a") + u32(math.MaxUint32) + string(k[:]) + string(k[:]), api.ErrHave},
		{"an invalid name", u32(1) + tenant("A", k), api.ErrName},
		{"an invalid name, a byte behind", u32(1) + tenant("a_b", k) + "x", api.ErrName},
		{"a name with a zero byte", u32(1) + tenant("\x00", k), api.ErrName},
		{"a name that ends with a hyphen", u32(1) + tenant("a-", k), api.ErrName},
		{"a key twice", u32(1) + tenant("a", k, key(2), k), api.ErrHave},
		{"a key of two tenants", u32(2) + tenant("a", k) + tenant("b", k), api.ErrHave},
	} {
		if s, err := vault.Read(v.b, 64, 64); !fails(s, err, v.want, "vault") {
			t.Errorf("%s: %v, %v", v.what, s, err)
		}
	}
}

// P28.1: Read makes a store with the limits that it is given.
func TestReadLimits(t *testing.T) {
	for most := -2; most <= 66; most++ {
		for _, n := range []int{0, 1, 2, 63, 64, 65} {
			b, one := u32(n), text("one")+u32(n)
			for i := range n {
				k := key(i)
				b += tenant("t"+string(rune('0'+i/10))+string(rune('0'+i%10)), k)
				one += string(k[:])
			}
			room := min(max(most, 0), 64)
			s, err := vault.Read(b, most, 1)
			if n > room {
				if !fails(s, err, api.ErrFull, "vault") {
					t.Errorf("%d tenants of at most %d: %v", n, most, err)
				}
			} else if err != nil || s == nil || len(s.Tenants()) != n {
				t.Errorf("%d tenants of at most %d: %v", n, most, err)
			}
			if n == 0 {
				continue
			}
			s, err = vault.Read(u32(1)+one, 1, most)
			if n > room {
				if !fails(s, err, api.ErrQuota, "vault") {
					t.Errorf("%d keys of at most %d: %v", n, most, err)
				}
			} else if err != nil || s == nil || len(s.Keys("one")) != n {
				t.Errorf("%d keys of at most %d: %v", n, most, err)
			}
		}
	}
}

// P28.1: the store that was read goes on with its limits, and is one of its own.
func TestReadStore(t *testing.T) {
	b := u32(2) + tenant("a", key(1), key(2)) + tenant("b", key(3))
	s, err := vault.Read(b, 3, 2)
	if err != nil {
		t.Fatal(err)
	}
	for _, v := range []struct {
		name string
		key  int
		want error
	}{{"a", 4, api.ErrQuota}, {"c", 1, api.ErrHave}, {"c", 5, nil}, {"d", 6, api.ErrFull}, {"b", 6, nil}, {"b", 7, api.ErrQuota}} {
		if err := s.Add(v.name, key(v.key)); err != v.want {
			t.Errorf("key %d to %s: %v, not %v", v.key, v.name, err, v.want)
		}
	}
	if name, err := s.Lookup(key(3)); name != "b" || err != nil {
		t.Errorf("the owner is %q, %v", name, err)
	}
	other, err := vault.Read(b, 3, 2)
	if err != nil || vault.Bytes(other) != b {
		t.Errorf("read once more: %v", err)
	}
}

// P28.1: a serialized store that is cut off anywhere, or followed by anything.
func TestReadCut(t *testing.T) {
	b := u32(3) + tenant("a", key(1), key(2)) + tenant("b", key(3)) + tenant("c", key(4), key(5), key(6))
	for n := range len(b) {
		if s, err := vault.Read(b[:n], 9, 9); !fails(s, err, api.ErrEnd, "vault") {
			t.Errorf("the first %d bytes: %v", n, err)
		}
		if s, err := vault.Read(b+b[:n+1], 9, 9); !fails(s, err, api.ErrForm, "vault") {
			t.Errorf("%d bytes more: %v", n+1, err)
		}
	}
	if _, err := vault.Read(b, 9, 9); err != nil {
		t.Error(err)
	}
}

// P28.1: random bytes that are nearly a serialized store are read as the document says.
func TestReadRandom(t *testing.T) {
	r := rand.New(rand.NewSource(28))
	results := map[error]int{}
	for range 30000 {
		b := randomBytes(r)
		tenants, keys := r.Intn(5), r.Intn(5)
		want, no := modelRead(b, tenants, keys)
		results[no]++
		s, err := vault.Read(b, tenants, keys)
		if no != nil {
			if !fails(s, err, no, "vault") {
				t.Fatalf("%x, %d, %d: %v, not %v", b, tenants, keys, err, no)
			}
			continue
		}
		if err != nil || s == nil || !sameEntries(entries(s), want) {
			t.Fatalf("%x, %d, %d: %v", b, tenants, keys, err)
		}
		if vault.Bytes(s) != b {
			t.Fatalf("%x is serialized as %x", b, vault.Bytes(s))
		}
	}
	for _, err := range []error{nil, api.ErrEnd, api.ErrBig, api.ErrForm, api.ErrName, api.ErrHave, api.ErrFull, api.ErrQuota} {
		if results[err] < 100 {
			t.Errorf("%v came only %d times", err, results[err])
		}
	}
}

// randomBytes returns a serialized store of few tenants, mostly with something wrong.
func randomBytes(r *rand.Rand) string {
	names := []string{"A", "a", "b", "b-", "b1", "c", "c-c", "d", "", strings.Repeat("d", 64)}
	n, at := r.Intn(4), 0
	b := ""
	for range n {
		at += r.Intn(3)
		keys := [][32]byte{}
		for range r.Intn(4) {
			keys = append(keys, key(r.Intn(40)))
		}
		b += tenant(names[min(at, len(names)-1)], keys...)
		at++
	}
	if r.Intn(8) == 0 {
		n += r.Intn(3) - 1
	}
	b = u32(n) + b
	switch r.Intn(8) {
	case 0:
		b = b[:r.Intn(len(b))]
	case 1:
		b += string([]byte{byte(r.Intn(3))})
	case 2:
		c := []byte(b)
		c[r.Intn(len(c))] ^= byte(1 << r.Intn(8))
		b = string(c)
	}
	return b
}

// modelRead reads a serialized store as the document says it, without the layers
// below: the tenants, or the error.
func modelRead(b string, tenants, keys int) ([]entry, error) {
	var l []entry
	number := func() (int, bool) {
		if len(b) < 4 {
			return 0, false
		}
		n := int(binary.BigEndian.Uint32([]byte(b)))
		b = b[4:]
		return n, true
	}
	count, is := number()
	if !is {
		return nil, api.ErrEnd
	}
	for i := 0; i < count; i++ {
		size, is := number()
		if !is {
			return nil, api.ErrEnd
		}
		if size > 63 {
			return nil, api.ErrBig
		}
		if len(b) < size {
			return nil, api.ErrEnd
		}
		e := entry{name: b[:size]}
		b = b[size:]
		many, is := number()
		if !is {
			return nil, api.ErrEnd
		}
		if many == 0 || e.name == "" || i > 0 && e.name <= l[i-1].name {
			return nil, api.ErrForm
		}
		l = append(l, e)
		for j := 0; j < many; j++ {
			if len(b) < 32 {
				return nil, api.ErrEnd
			}
			k := [32]byte([]byte(b[:32]))
			b = b[32:]
			if err := mayAdd(l, k, tenants, keys); err != nil {
				return nil, err
			}
			l[i].keys = append(l[i].keys, k)
		}
	}
	if b != "" {
		return nil, api.ErrForm
	}
	return l, nil
}

// mayAdd returns the error of adding a key to the last tenant of a list.
func mayAdd(l []entry, k [32]byte, tenants, keys int) error {
	last := l[len(l)-1]
	for i := range len(last.name) {
		c := last.name[i]
		inside := i > 0 && i < len(last.name)-1
		if !('a' <= c && c <= 'z' || '0' <= c && c <= '9' || inside && c == '-') {
			return api.ErrName
		}
	}
	for _, e := range l {
		if slices.Contains(e.keys, k) {
			return api.ErrHave
		}
	}
	if len(l) > tenants {
		return api.ErrFull
	}
	if len(last.keys) >= keys {
		return api.ErrQuota
	}
	return nil
}
