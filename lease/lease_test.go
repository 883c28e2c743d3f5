package lease_test

import (
	"fmt"
	"math"
	"math/rand"
	"slices"
	"strings"
	"testing"

	"speakeasy/api"
	"speakeasy/lease"
	"speakeasy/store"
)

const lastTick = 1 << 40

// model is a table as the document says it: a list of leases in the order in which
// they were made.
type model struct {
	names, total, life, epoch int
	list                      []lease.Lease
}

func newModel(c lease.Config) *model {
	return &model{names: min(max(c.Names, 0), 64), total: min(max(c.Total, 0), 4096), life: min(max(c.Life, 1), 1<<30)}
}

func tick(now int) int { return min(max(now, 0), lastTick) }

func (m *model) place(tenant, alias string) int {
	return slices.IndexFunc(m.list, func(l lease.Lease) bool { return l.Tenant == tenant && l.Alias == alias })
}

func (m *model) count(tenant string) int {
	n := 0
	for _, l := range m.list {
		if l.Tenant == tenant {
			n++
		}
	}
	return n
}

func (m *model) take(tenant, alias string, owner, now int) (lease.Lease, int, error) {
	if !store.Valid(tenant) || !store.Valid(alias) {
		return lease.Lease{}, -1, api.ErrName
	}
	i, was := m.place(tenant, alias), -1
	switch {
	case i >= 0 && m.list[i].Owner == owner:
		return lease.Lease{}, -1, api.ErrHave
	case i >= 0:
		was = m.list[i].Owner
		m.list = slices.Delete(m.list, i, i+1)
	case m.count(tenant) >= m.names:
		return lease.Lease{}, -1, api.ErrQuota
	case len(m.list) >= m.total:
		return lease.Lease{}, -1, api.ErrFull
	}
	m.epoch++
	m.list = append(m.list, lease.Lease{Tenant: tenant, Alias: alias, Owner: owner, Epoch: m.epoch, Last: tick(now)})
	return m.list[len(m.list)-1], was, nil
}

func (m *model) find(tenant, alias string) (lease.Lease, error) {
	if i := m.place(tenant, alias); i >= 0 {
		return m.list[i], nil
	}
	return lease.Lease{}, api.ErrNone
}

func (m *model) cancel(tenant, alias string, owner int) (lease.Lease, error) {
	i := m.place(tenant, alias)
	if i < 0 || m.list[i].Owner != owner {
		return lease.Lease{}, api.ErrNone
	}
	l := m.list[i]
	m.list = slices.Delete(m.list, i, i+1)
	return l, nil
}

func (m *model) beat(owner, now int) int {
	n := 0
	for i, l := range m.list {
		if l.Owner == owner {
			n++
			if tick(now) > l.Last {
				m.list[i].Last = tick(now)
			}
		}
	}
	return n
}

// remove removes some leases and returns them in the order of All.
func (m *model) remove(which func(lease.Lease) bool) []lease.Lease {
	var gone, left []lease.Lease
	for _, l := range m.list {
		if which(l) {
			gone = append(gone, l)
		} else {
			left = append(left, l)
		}
	}
	m.list = left
	return ordered(gone)
}

func (m *model) drop(owner int) []lease.Lease {
	return m.remove(func(l lease.Lease) bool { return l.Owner == owner })
}

func (m *model) expire(now int) []lease.Lease {
	return m.remove(func(l lease.Lease) bool { return l.Last+m.life <= tick(now) })
}

func ordered(l []lease.Lease) []lease.Lease {
	l = slices.Clone(l)
	slices.SortFunc(l, func(a, b lease.Lease) int {
		if a.Tenant != b.Tenant {
			return strings.Compare(a.Tenant, b.Tenant)
		}
		return strings.Compare(a.Alias, b.Alias)
	})
	return l
}

// both is a Table beside its model; every method calls both and compares the results.
type both struct {
	t     *testing.T
	table *lease.Table
	model *model
	epoch int // the greatest one that was given
}

func newBoth(t *testing.T, c lease.Config) *both {
	return &both{t: t, table: lease.New(c), model: newModel(c)}
}

// same compares what a call returned, and all leases afterwards.
func (b *both) same(call string, got, want any) {
	b.t.Helper()
	if fmt.Sprint(got) != fmt.Sprint(want) {
		b.t.Fatalf("%s: %v, not %v", call, got, want)
	}
	all := b.table.All()
	if !slices.Equal(all, ordered(b.model.list)) {
		b.t.Fatalf("%s: then all leases are %v, not %v", call, all, ordered(b.model.list))
	}
	if len(all) > b.model.total {
		b.t.Fatalf("%s: %d leases", call, len(all))
	}
	tenants := map[string]int{"none": 0, "": 0, "T": 0}
	epochs := map[int]bool{}
	for _, l := range all {
		tenants[l.Tenant]++
		if epochs[l.Epoch] || l.Epoch > b.model.epoch {
			b.t.Fatalf("%s: epoch %d is not one lease's", call, l.Epoch)
		}
		epochs[l.Epoch] = true
	}
	for name, n := range tenants {
		if b.table.Count(name) != n || n > b.model.names {
			b.t.Fatalf("%s: %q has %d leases, not %d", call, name, b.table.Count(name), n)
		}
	}
}

func (b *both) take(tenant, alias string, owner, now int) (lease.Lease, int, error) {
	b.t.Helper()
	want, before, no := b.model.take(tenant, alias, owner, now)
	got, was, err := b.table.Take(tenant, alias, owner, now)
	b.same(fmt.Sprintf("Take(%q, %q, %d, %d)", tenant, alias, owner, now), []any{got, was, err}, []any{want, before, no})
	if err != no {
		b.t.Fatalf("%v, not %v", err, no)
	}
	if err == nil {
		if got.Epoch != b.epoch+1 {
			b.t.Fatalf("epoch %d follows %d", got.Epoch, b.epoch)
		}
		b.epoch = got.Epoch
	}
	b.find(tenant, alias)
	return got, was, err
}

func (b *both) find(tenant, alias string) {
	b.t.Helper()
	want, no := b.model.find(tenant, alias)
	got, err := b.table.Find(tenant, alias)
	b.same(fmt.Sprintf("Find(%q, %q)", tenant, alias), []any{got, err}, []any{want, no})
	if err != no {
		b.t.Fatalf("%v, not %v", err, no)
	}
}

func (b *both) cancel(tenant, alias string, owner int) {
	b.t.Helper()
	want, no := b.model.cancel(tenant, alias, owner)
	got, err := b.table.Cancel(tenant, alias, owner)
	b.same(fmt.Sprintf("Cancel(%q, %q, %d)", tenant, alias, owner), []any{got, err}, []any{want, no})
	if err != no {
		b.t.Fatalf("%v, not %v", err, no)
	}
	b.find(tenant, alias)
}

func (b *both) beat(owner, now int) {
	b.t.Helper()
	want := b.model.beat(owner, now)
	b.same(fmt.Sprintf("Beat(%d, %d)", owner, now), b.table.Beat(owner, now), want)
}

func (b *both) drop(owner int) {
	b.t.Helper()
	want := b.model.drop(owner)
	b.same(fmt.Sprintf("Drop(%d)", owner), b.table.Drop(owner), want)
}

func (b *both) expire(now int) {
	b.t.Helper()
	want := b.model.expire(now)
	b.same(fmt.Sprintf("Expire(%d)", now), b.table.Expire(now), want)
}

func wide() lease.Config { return lease.Config{Names: 64, Total: 4096, Life: 10} }

// P20.1, P20.2: the document's example.
func TestExample(t *testing.T) {
	b := lease.New(wide())
	first, was, err := b.Take("t", "a", 1, 5)
	if first != (lease.Lease{Tenant: "t", Alias: "a", Owner: 1, Epoch: 1, Last: 5}) || was != -1 || err != nil {
		t.Errorf("%v, %d, %v", first, was, err)
	}
	second, was, err := b.Take("t", "a", 2, 6)
	if second != (lease.Lease{Tenant: "t", Alias: "a", Owner: 2, Epoch: 2, Last: 6}) || was != 1 || err != nil {
		t.Errorf("%v, %d, %v", second, was, err)
	}
	if l := b.All(); len(l) != 1 || l[0] != second {
		t.Errorf("%v", l)
	}
}

// P20.1: an empty table.
func TestEmpty(t *testing.T) {
	b := newBoth(t, wide())
	b.find("t", "a")
	b.find("", "")
	b.cancel("t", "a", 0)
	b.cancel("t", "a", -1)
	b.beat(0, 1)
	b.beat(-1, 1)
	b.drop(0)
	b.expire(math.MaxInt)
	other := lease.New(wide())
	if _, _, err := other.Take("t", "a", 1, 1); err != nil {
		t.Error(err)
	}
	b.find("t", "a")
	b.take("t", "a", 1, 1)
}

// P20.1: names of tenants and aliases that are valid, and others.
func TestNames(t *testing.T) {
	good := []string{"a", "z", "0", "9", "web", "a-b", strings.Repeat("a", 63)}
	bad := []string{"", "-", "-a", "a-", "A", "a.b", "a b", "é", "a\x00", strings.Repeat("a", 64), strings.Repeat("a", 10000)}
	for _, tenant := range append(good, bad...) {
		for _, alias := range append(good, bad...) {
			b := newBoth(t, wide())
			l, was, err := b.take(tenant, alias, 1, 1)
			if slices.Contains(bad, tenant) || slices.Contains(bad, alias) {
				if l != (lease.Lease{}) || was != -1 || err != api.ErrName {
					t.Errorf("%q of %q: %v, %d, %v", alias, tenant, l, was, err)
				}
			} else if err != nil || l.Tenant != tenant || l.Alias != alias {
				t.Errorf("%q of %q: %v, %v", alias, tenant, l, err)
			}
			b.cancel(tenant, alias, 1)
		}
	}
}

// P20.1: a tenant and an alias are two things.
func TestPairs(t *testing.T) {
	b := newBoth(t, wide())
	b.take("a", "bc", 1, 1)
	b.take("ab", "c", 2, 1)
	b.take("bc", "a", 3, 1)
	b.take("a-b", "c", 4, 1)
	b.take("a", "b-c", 5, 1)
	b.take("c", "c", 6, 1)
	b.find("abc", "")
	b.find("c", "ab")
	b.find("bc", "a")
	b.cancel("a", "bc", 2)
	b.cancel("ab", "c", 2)
}

// P20.1: any number can be an owner, also the one that stands for none.
func TestOwners(t *testing.T) {
	owners := []int{0, 1, -1, -2, math.MinInt, math.MaxInt, 1 << 32}
	for _, first := range owners {
		for _, second := range owners {
			b := newBoth(t, wide())
			b.take("t", "a", first, 1)
			b.cancel("t", "a", first^1)
			l, was, err := b.take("t", "a", second, 2)
			if first == second && err != api.ErrHave || first != second && (err != nil || was != first || l.Owner != second) {
				t.Errorf("%d after %d: %v, %d, %v", second, first, l, was, err)
			}
			b.take("t", "b", first, 2)
			b.beat(second, 3)
			b.drop(first)
			b.cancel("t", "a", second)
		}
	}
}

// P20.1: of several errors, the first one is returned; none uses up an epoch.
func TestErrors(t *testing.T) {
	for _, x := range []struct {
		tenant, alias string
		owner         int
		want          error
	}{
		{"T", "a", 1, api.ErrName}, {"t", "A", 1, api.ErrName}, {"T", "A", 9, api.ErrName}, {"t", "c-", 1, api.ErrName},
		{"t", "a", 1, api.ErrHave}, {"t", "b", 2, api.ErrHave}, {"u", "a", 1, api.ErrHave},
		{"t", "c", 1, api.ErrQuota}, {"t", "c", 9, api.ErrQuota},
		{"u", "c", 1, api.ErrFull}, {"v", "c", 9, api.ErrFull}, {"v", "a", 1, api.ErrFull},
		{"t", "a", 2, nil}, {"t", "b", 1, nil}, {"u", "a", 9, nil},
	} {
		b := newBoth(t, lease.Config{Names: 2, Total: 3, Life: 10})
		b.take("t", "a", 1, 1)
		b.take("t", "b", 2, 1)
		b.take("u", "a", 1, 1)
		l, was, err := b.take(x.tenant, x.alias, x.owner, 2)
		if err != x.want || err != nil && (was != -1 || l != (lease.Lease{})) {
			t.Errorf("%+v: %v, %d, %v", x, l, was, err)
		}
		b.cancel("t", "b", 2)
		b.cancel("t", "b", 1)
		if l, _, err := b.take("t", "d", 7, 2); err != nil || x.want != nil && l.Epoch != 4 {
			t.Errorf("after %+v: %v, %v", x, l, err)
		}
	}
}

// P20.3: the number of names of a tenant; numbers beyond the range count as its ends.
func TestNamesLimit(t *testing.T) {
	for _, n := range []int{math.MinInt, -1, 0, 1, 2, 3, 63, 64, 65, 1000, math.MaxInt} {
		most := min(max(n, 0), 64)
		b := newBoth(t, lease.Config{Names: n, Total: 4096, Life: 1})
		for _, tenant := range []string{"t", "u"} {
			for i := range 70 {
				_, _, err := b.take(tenant, fmt.Sprint("a", i), i%3, 1)
				if i < most && err != nil || i >= most && err != api.ErrQuota {
					t.Errorf("name %d of at most %d: %v", i+1, n, err)
				}
			}
			if b.table.Count(tenant) != most {
				t.Errorf("%d names of at most %d", b.table.Count(tenant), n)
			}
		}
		if most > 0 {
			b.take("t", "a0", 7, 1) // replaces one
			b.cancel("t", "a0", 7)
			if _, _, err := b.take("t", "again", 7, 1); err != nil {
				t.Errorf("%d: %v", n, err)
			}
		}
	}
}

// P20.3: the number of all names.
func TestTotalLimit(t *testing.T) {
	for _, n := range []int{math.MinInt, -1, 0, 1, 2, 3, 100, 4095, 4096, 4097, math.MaxInt} {
		most := min(max(n, 0), 4096)
		table := lease.New(lease.Config{Names: 64, Total: n, Life: 1})
		for i := range most + 5 {
			_, _, err := table.Take(fmt.Sprint("t", i%70), fmt.Sprint("a", i/70), i, 1)
			if i < most && err != nil || i >= most && err != api.ErrFull {
				t.Fatalf("name %d of at most %d: %v", i+1, n, err)
			}
		}
		if len(table.All()) != most {
			t.Errorf("%d names of at most %d", len(table.All()), n)
		}
		if most > 0 {
			if _, was, err := table.Take("t0", "a0", 9999, 1); was != 0 || err != nil {
				t.Errorf("a name is replaced: %d, %v", was, err)
			}
			table.Drop(9999)
			if _, _, err := table.Take("new", "a", 1, 1); err != nil {
				t.Error(err)
			}
			if _, _, err := table.Take("new", "b", 1, 1); err != api.ErrFull {
				t.Error(err)
			}
		}
	}
}

// P20.1: a lease expires Life ticks after its last heartbeat, and not before.
func TestLife(t *testing.T) {
	for _, n := range []int{math.MinInt, -1, 0, 1, 2, 10, 1<<30 - 1, 1 << 30, 1<<30 + 1, math.MaxInt} {
		life := min(max(n, 1), 1<<30)
		for _, now := range []int{-5, 0, 1, 100, lastTick - life - 1, lastTick - life} {
			b := newBoth(t, lease.Config{Names: 9, Total: 9, Life: n})
			b.take("t", "a", 1, now)
			b.take("t", "b", 2, now)
			start := max(now, 0)
			b.expire(start)
			b.expire(start + life - 1)
			if len(b.table.All()) != 2 {
				t.Errorf("%d after %d: %v", n, now, b.table.All())
			}
			b.beat(2, start+1)
			b.expire(start + life)
			if l := b.table.All(); len(l) != 1 || l[0].Alias != "b" {
				t.Errorf("%d after %d: %v", n, now, l)
			}
			b.expire(start + life + 1)
		}
	}
}

// P20.1: ticks beyond the range count as its ends.
func TestTicks(t *testing.T) {
	for _, now := range []int{math.MinInt, -1, 0, 1, lastTick - 1, lastTick, lastTick + 1, math.MaxInt} {
		b := newBoth(t, wide())
		if l, _, err := b.take("t", "a", 1, now); err != nil || l.Last != tick(now) {
			t.Errorf("%d: %v, %v", now, l, err)
		}
		b.take("t", "b", 2, 0)
		b.beat(2, now)
		for _, later := range []int{math.MinInt, -1, 0, 9, 10, 11, lastTick, lastTick + 1, math.MaxInt} {
			b.beat(1, later-5)
			b.expire(later)
		}
	}
	b := newBoth(t, wide())
	b.take("t", "a", 1, math.MaxInt)
	for range 3 {
		b.expire(math.MaxInt) // it can never expire
	}
	if len(b.table.All()) != 1 {
		t.Error("a lease of the last tick has expired")
	}
}

// P20.1: a heartbeat counts for all leases of the owner, and is never set back.
func TestBeat(t *testing.T) {
	b := newBoth(t, wide())
	for i, now := range []int{1, 5, 9, 20} {
		b.take("t", string(rune('a'+i)), 1, now)
		b.take("u", string(rune('a'+i)), 2, now)
	}
	b.beat(1, 9)
	for i, want := range []int{9, 9, 9, 20} {
		if l, err := b.table.Find("t", string(rune('a'+i))); err != nil || l.Last != want {
			t.Errorf("%v, %v", l, err)
		}
	}
	if n := b.table.Beat(1, 3); n != 4 {
		t.Errorf("%d leases, of which none is older", n)
	}
	b.beat(1, 3)
	b.beat(3, 30)
	b.beat(2, 30)
	b.expire(32)
}

// P20.1: the order of tenants and aliases, byte by byte.
func TestOrder(t *testing.T) {
	names := []string{"b", "a-b", "a0", "a", "aa", "0", "9", "10", "z", "a-a", "ab", "a--b"}
	b := newBoth(t, wide())
	for i, tenant := range names {
		for j, alias := range names {
			b.take(tenant, alias, (i+j)%3, (i*j)%20)
		}
	}
	all := b.table.All()
	for i := range all[1:] {
		if x, y := all[i], all[i+1]; x.Tenant > y.Tenant || x.Tenant == y.Tenant && x.Alias >= y.Alias {
			t.Errorf("%v comes before %v", x, y)
		}
	}
	b.expire(15)
	b.drop(1)
	b.drop(1)
	b.drop(2)
}

// P20.1: lists that were returned are the caller's.
func TestMemory(t *testing.T) {
	b := newBoth(t, wide())
	for i := range 8 {
		b.take("t", string(rune('a'+i)), i%2, i)
	}
	kept := b.table.All()
	before := slices.Clone(kept)
	clear(b.table.All())
	_ = append(b.table.All()[:2], lease.Lease{Tenant: "t"})
	b.beat(1, 9)
	gone := b.table.Drop(0)
	b.model.drop(0)
	clear(gone)
	b.find("t", "a")
	b.take("t", "a", 5, 10)
	if !slices.Equal(kept, before) {
		t.Errorf("a list that was returned became %v", kept)
	}
}

// P20.1, P20.2, P20.3: any calls, compared with the model after each of them.
func TestRandom(t *testing.T) {
	source := rand.New(rand.NewSource(1))
	names := []string{"a", "b", "c", "d-e", "f", "A", ""}
	for range 1500 {
		b := newBoth(t, lease.Config{Names: source.Intn(5), Total: source.Intn(10), Life: source.Intn(12)})
		now := 0
		for range 60 {
			tenant, alias := names[source.Intn(len(names)-source.Intn(4))], names[source.Intn(len(names)-source.Intn(3))]
			owner, at := source.Intn(4), now-3+source.Intn(7)
			switch source.Intn(12) {
			case 0, 1, 2, 3, 4, 5:
				b.take(tenant, alias, owner, at)
			case 6:
				b.find(tenant, alias)
			case 7:
				b.cancel(tenant, alias, owner)
			case 8:
				b.beat(owner, at)
			case 9:
				if source.Intn(3) == 0 {
					b.drop(owner)
				}
			case 10:
				b.expire(at)
			case 11:
				now += source.Intn(4)
			}
		}
	}
}
