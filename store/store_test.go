package store_test

import (
	"fmt"
	"math"
	"math/rand"
	"regexp"
	"slices"
	"strings"
	"testing"

	"speakeasy/api"
	"speakeasy/store"
)

func key(n int) [32]byte { return [32]byte{0: byte(n), 31: byte(n >> 8)} }

// P16.1: valid names and others.
func TestValid(t *testing.T) {
	for _, name := range []string{"a", "z", "0", "9", "t", "a-b", "a--b", "0-9", "dev1", strings.Repeat("a", 63), "a" + strings.Repeat("-", 61) + "9"} {
		if !store.Valid(name) {
			t.Errorf("%q is not valid", name)
		}
	}
	for _, name := range []string{"", "-", "--", "-a", "a-", "-a-", "A", "aB", "a b", "a.b", "a_b", " a", "a ", "a\n", "\x00", "a\x00", "é", "aéb", strings.Repeat("a", 64), strings.Repeat("a", 1000)} {
		if store.Valid(name) {
			t.Errorf("%q is valid", name)
		}
	}
}

// P16.1: every byte at each place of a name, and every length.
func TestValidBytes(t *testing.T) {
	valid := regexp.MustCompile(`^[a-z0-9]([a-z0-9-]{0,61}[a-z0-9])?$`)
	check := func(name string) {
		want := valid.MatchString(name) && !strings.HasSuffix(name, "\n")
		if store.Valid(name) != want {
			t.Errorf("%q: %v", name, !want)
		}
		if err := store.New(1, 1).Add(name, key(1)); (err == nil) != want || !want && err != api.ErrName {
			t.Errorf("Add to %q: %v", name, err)
		}
	}
	for b := range 256 {
		c := string([]byte{byte(b)})
		for _, name := range []string{c, c + "a", "a" + c, "a" + c + "a", "a" + c + c + "a", strings.Repeat("a", 62) + c, c + strings.Repeat("a", 62)} {
			check(name)
		}
	}
	for n := range 70 {
		check(strings.Repeat("a", n))
		check("a" + strings.Repeat("-", n) + "a")
	}
}

// model is a store as the document says it, without maps: every key beside its
// tenant, in the order in which they were added.
type model struct {
	tenants, keys int
	pairs         []pair
}

type pair struct {
	tenant string
	key    [32]byte
}

func (m *model) names() []string {
	var l []string
	for _, p := range m.pairs {
		if !slices.Contains(l, p.tenant) {
			l = append(l, p.tenant)
		}
	}
	slices.Sort(l)
	return l
}

func (m *model) of(tenant string) [][32]byte {
	var l [][32]byte
	for _, p := range m.pairs {
		if p.tenant == tenant {
			l = append(l, p.key)
		}
	}
	return l
}

func (m *model) place(k [32]byte) int {
	return slices.IndexFunc(m.pairs, func(p pair) bool { return p.key == k })
}

func (m *model) lookup(k [32]byte) (string, error) {
	if i := m.place(k); i >= 0 {
		return m.pairs[i].tenant, nil
	}
	return "", api.ErrNone
}

func (m *model) add(tenant string, k [32]byte) error {
	switch {
	case !store.Valid(tenant):
		return api.ErrName
	case m.place(k) >= 0:
		return api.ErrHave
	case !slices.Contains(m.names(), tenant) && len(m.names()) >= m.tenants:
		return api.ErrFull
	case len(m.of(tenant)) >= m.keys:
		return api.ErrQuota
	}
	m.pairs = append(m.pairs, pair{tenant, k})
	return nil
}

func (m *model) revoke(k [32]byte) (string, error) {
	tenant, err := m.lookup(k)
	if i := m.place(k); i >= 0 {
		m.pairs = slices.Delete(m.pairs, i, i+1)
	}
	return tenant, err
}

// check compares a store with the model: its tenants, their keys, and the owner of
// each of the given keys.
func (m *model) check(t *testing.T, what string, s *store.Store, keys ...[32]byte) {
	t.Helper()
	if got := s.Tenants(); !slices.Equal(got, m.names()) {
		t.Fatalf("%s: the tenants are %q, not %q", what, got, m.names())
	}
	for _, name := range append(m.names(), "none", "", "A") {
		if got := s.Keys(name); !slices.Equal(got, m.of(name)) {
			t.Fatalf("%s: the keys of %q are %x, not %x", what, name, got, m.of(name))
		}
	}
	for _, k := range keys {
		who, err := s.Lookup(k)
		if want, no := m.lookup(k); who != want || err != no {
			t.Fatalf("%s: %x belongs to %q, %v, not %q, %v", what, k, who, err, want, no)
		}
	}
}

// P16.1, P16.2: an empty store.
func TestEmpty(t *testing.T) {
	s := store.New(2, 2)
	(&model{}).check(t, "empty", s, key(0), key(1))
	if who, err := s.Revoke(key(0)); who != "" || err != api.ErrNone {
		t.Errorf("Revoke: %q, %v", who, err)
	}
	if a, b := store.New(2, 2), store.New(2, 2); a.Add("t", key(1)) != nil || b.Add("u", key(1)) != nil {
		t.Errorf("one store has what was added to another")
	}
}

// P16.1: a key that a tenant has, whichever one that is; and the key of zeros is one as well.
func TestHave(t *testing.T) {
	for _, k := range [][32]byte{key(1), {}} {
		s := store.New(9, 9)
		if s.Add("t", k) != nil || s.Add("u", k) != api.ErrHave || s.Add("t", k) != api.ErrHave || s.Add("T", k) != api.ErrName {
			t.Errorf("%x was added twice", k)
		}
		m := model{9, 9, []pair{{"t", k}}}
		m.check(t, "added", s, k)
		if who, err := s.Revoke(k); who != "t" || err != nil {
			t.Errorf("Revoke: %q, %v", who, err)
		}
		if who, err := s.Revoke(k); who != "" || err != api.ErrNone {
			t.Errorf("Revoke again: %q, %v", who, err)
		}
		m.pairs = nil
		m.check(t, "revoked", s, k)
		if err := s.Add("u", k); err != nil {
			t.Errorf("Add of a revoked key: %v", err)
		}
	}
}

// P16.1: of several errors, the first one is returned, and nothing is changed.
func TestAddErrors(t *testing.T) {
	full := func() (*store.Store, *model) {
		s, m := store.New(2, 2), &model{tenants: 2, keys: 2}
		for i, name := range []string{"b", "a", "b"} {
			if s.Add(name, key(i)) != nil || m.add(name, key(i)) != nil {
				t.Fatalf("Add of key %d to %q", i, name)
			}
		}
		return s, m
	}
	tests := []struct {
		name string
		key  int
		want error
	}{
		{"B", 0, api.ErrName}, {"B", 9, api.ErrName}, {"", 9, api.ErrName}, {"b-", 9, api.ErrName}, {"c-", 9, api.ErrName},
		{"b", 0, api.ErrHave}, {"b", 1, api.ErrHave}, {"a", 0, api.ErrHave}, {"c", 0, api.ErrHave}, {"c", 1, api.ErrHave},
		{"c", 9, api.ErrFull}, {"0", 9, api.ErrFull}, {"bb", 9, api.ErrFull},
		{"b", 9, api.ErrQuota},
		{"a", 9, nil},
	}
	for _, test := range tests {
		s, m := full()
		if err := s.Add(test.name, key(test.key)); err != test.want || m.add(test.name, key(test.key)) != test.want {
			t.Errorf("key %d to %q: %v, not %v", test.key, test.name, err, test.want)
		}
		m.check(t, fmt.Sprintf("key %d to %q", test.key, test.name), s, key(0), key(1), key(2), key(9))
	}
}

// P16.1: numbers beyond the range count as its ends.
func TestLimits(t *testing.T) {
	for _, n := range []int{math.MinInt, -65, -1, 0, 1, 2, 63, 64, 65, 1000, math.MaxInt} {
		want := min(max(n, 0), 64)
		s := store.New(n, 1)
		for i := range 70 {
			err := s.Add(fmt.Sprint("t", i), key(i))
			if i < want && err != nil || i >= want && err != api.ErrFull {
				t.Errorf("tenant %d of at most %d: %v", i+1, n, err)
			}
		}
		if len(s.Tenants()) != want {
			t.Errorf("at most %d tenants: %d", n, len(s.Tenants()))
		}
		s = store.New(1, n)
		for i := range 70 {
			err := s.Add("t", key(i))
			if i < want && err != nil || i >= want && err != api.ErrQuota {
				t.Errorf("key %d of at most %d: %v", i+1, n, err)
			}
		}
		if len(s.Keys("t")) != want || len(s.Tenants()) != min(want, 1) {
			t.Errorf("at most %d keys: %d of %d tenants", n, len(s.Keys("t")), len(s.Tenants()))
		}
	}
}

// P16.1: the most that a store can hold, from which a tenant goes and returns.
func TestLargest(t *testing.T) {
	s := store.New(64, 64)
	name := func(i int) string { return fmt.Sprint("t", i%64) }
	for i := range 64 * 64 {
		if err := s.Add(name(i), key(i)); err != nil {
			t.Fatalf("key %d: %v", i, err)
		}
	}
	if err := s.Add("more", key(5000)); err != api.ErrFull {
		t.Errorf("tenant 65: %v", err)
	}
	if err := s.Add(name(7), key(5000)); err != api.ErrQuota {
		t.Errorf("key 65: %v", err)
	}
	for i := 7; i < 64*64; i += 64 {
		if who, err := s.Revoke(key(i)); who != "t7" || err != nil {
			t.Errorf("Revoke of key %d: %q, %v", i, who, err)
		}
	}
	if len(s.Tenants()) != 63 || s.Add("more", key(5000)) != nil || s.Add("t7", key(7)) != api.ErrFull {
		t.Errorf("the tenants are %q", s.Tenants())
	}
	for i := range 64 * 64 {
		who, err := s.Lookup(key(i))
		if i%64 == 7 && (who != "" || err != api.ErrNone) || i%64 != 7 && (who != name(i) || err != nil) {
			t.Errorf("key %d belongs to %q, %v", i, who, err)
		}
	}
}

// P16.1: tenants ascend byte by byte; keys stay in the order in which they were added.
func TestOrder(t *testing.T) {
	names := []string{"b", "a-", "a0", "a", "aa", "0", "9", "10", "z", "a-a", "ab"}
	s, m := store.New(64, 64), &model{tenants: 64, keys: 64}
	for i, name := range append(names, names...) {
		if s.Add(name, key(99-i)) != m.add(name, key(99-i)) {
			t.Errorf("Add to %q", name)
		}
	}
	m.check(t, "two keys each", s)
	for _, n := range []int{5, 3, 9, 4} {
		s.Add("order", key(n))
	}
	s.Revoke(key(3))
	s.Add("order", key(3))
	s.Add("order", key(1))
	s.Revoke(key(5))
	if got, want := s.Keys("order"), [][32]byte{key(9), key(4), key(3), key(1)}; !slices.Equal(got, want) {
		t.Errorf("%x, not %x", got, want)
	}
}

// P16.1, P16.2: lists that were returned are the caller's.
func TestMemory(t *testing.T) {
	s, m := store.New(4, 4), &model{tenants: 4, keys: 4}
	for i := range 6 {
		name := string([]byte{"ba"[i%2]})
		s.Add(name, key(i))
		m.add(name, key(i))
	}
	keys, names := s.Keys("a"), s.Tenants()
	before := slices.Clone(keys)
	for i := range keys {
		keys[i] = key(99)
	}
	for i := range names {
		names[i] = "changed"
	}
	_ = append(s.Keys("a")[:1], key(98), key(97))
	m.check(t, "the lists were changed", s, key(1), key(97), key(98), key(99))
	keys = s.Keys("a")
	s.Revoke(key(1))
	s.Add("a", key(50))
	if !slices.Equal(keys, before) {
		t.Errorf("a list that was returned became %x", keys)
	}
}

// P16.1, P16.2: any calls, compared with the model after each of them.
func TestRandom(t *testing.T) {
	source := rand.New(rand.NewSource(1))
	names := []string{"a", "b", "c", "d-e", "f", "A", "", "-"}
	var all [][32]byte
	for i := range 12 {
		all = append(all, key(i))
	}
	for range 200 {
		m := &model{tenants: source.Intn(5), keys: source.Intn(5)}
		s := store.New(m.tenants, m.keys)
		for range 60 {
			name, k := names[source.Intn(len(names))], all[source.Intn(len(all))]
			var what string
			if source.Intn(3) > 0 {
				what = fmt.Sprintf("Add(%q, %x)", name, k[0])
				if err, want := s.Add(name, k), m.add(name, k); err != want {
					t.Fatalf("%s: %v, not %v", what, err, want)
				}
			} else {
				what = fmt.Sprintf("Revoke(%x)", k[0])
				who, err := s.Revoke(k)
				if want, no := m.revoke(k); who != want || err != no {
					t.Fatalf("%s: %q, %v, not %q, %v", what, who, err, want, no)
				}
			}
			m.check(t, what, s, all...)
		}
	}
}
