package home_test

import (
	"fmt"
	"math/rand"
	"slices"
	"testing"

	"speakeasy/keeper"
)

// few is how many ticks after it has connected a keeper knows that it holds its names:
// it is told that it is in, and then what was granted.
const few = 2

// family is a home with some devices that want different names.
type family struct {
	*both
	source *rand.Rand
	wishes map[string]keeper.Config
	most   int
}

func newFamily(t *testing.T, source *rand.Rand) *family {
	t.Helper()
	c := small()
	c.Seed = fmt.Sprint(source.Intn(1000))
	beat := 2 + source.Intn(8)
	c.Silent = beat + 1 + source.Intn(3)
	c.Life = beat + 1 + source.Intn(3)
	c.Names = 9
	f := &family{both: create(t, c), source: source, wishes: map[string]keeper.Config{}}
	for _, name := range []string{"a", "b", "c", "d"} {
		k := keeper.Config{First: 1 + source.Intn(4), Most: source.Intn(16), Beat: 2 + source.Intn(beat-1)}
		for i := range source.Intn(4) {
			k.Names = append(k.Names, fmt.Sprint(name, "-", 2-i))
		}
		f.wishes[name] = k
		f.most = max(f.most, k.First, k.Most)
		if source.Intn(2) == 0 {
			f.grant(f.tenant(name), name)
		}
		f.keep(name, f.tenant(name), k)
	}
	return f
}

// tenant returns the tenant of a device: two of them share one.
func (f *family) tenant(name string) string {
	return map[string]string{"a": "t", "b": "t", "c": "u", "d": "v"}[name]
}

// disturb cuts a device, revokes its key or grants it again, or carries a part of what
// is sent.
func (f *family) disturb() {
	f.Helper()
	name := []string{"a", "b", "c", "d"}[f.source.Intn(4)]
	switch f.source.Intn(6) {
	case 0, 1:
		f.cut(name)
	case 2:
		f.revoke(name)
	case 3:
		f.grant(f.tenant(name), name)
	default:
		f.carry(name, f.source.Intn(2), f.source.Intn(500))
	}
}

// settle ends the disturbances.
func (f *family) settle() {
	f.Helper()
	for name := range f.wishes {
		f.grant(f.tenant(name), name)
	}
	if f.source.Intn(2) == 0 {
		for name := range f.wishes {
			f.cut(name)
		}
	}
}

// complete checks that every device holds what it wants.
func (f *family) complete() {
	f.Helper()
	want := map[string]string{}
	for name, k := range f.wishes {
		if v := f.Keeper(name); v.State != keeper.In || !slices.Equal(v.Held, k.Names) {
			f.Fatalf("%q wants %+v: %+v", name, k, v)
		}
		for _, alias := range k.Names {
			want[alias] = f.tenant(name)
		}
	}
	for _, l := range f.Relay().Leases() {
		if tenant, ok := f.Relay().Who(l.Owner); !ok || tenant != want[l.Alias] || l.Tenant != tenant {
			f.Fatalf("%+v", l)
		}
		delete(want, l.Alias)
	}
	if len(want) > 0 {
		f.Fatalf("%v are not leased", want)
	}
}

// P30.2: after anything has happened, every name is held again.
func TestReturns(t *testing.T) {
	source := rand.New(rand.NewSource(302))
	for range 20 {
		f := newFamily(t, source)
		for range 3 {
			for range source.Intn(60) {
				if source.Intn(2) == 0 {
					f.disturb()
				} else {
					f.tick()
				}
			}
			f.settle()
			f.ticks(f.most + few)
			f.complete()
			before := f.Relay().Conns()
			for range 25 { // nothing ends any more
				f.tick()
				f.complete()
			}
			if after := f.Relay().Conns(); !slices.Equal(before, after) {
				t.Fatalf("%v, then %v", before, after)
			}
		}
	}
}

// P30.2: a device whose key was revoked for long comes back within Most ticks, whenever
// it is granted again.
func TestRevoked(t *testing.T) {
	const most = 6
	for ticks := range 40 {
		b := create(t, small())
		b.grant("t", "dev")
		b.keep("dev", "t", keeper.Config{Names: []string{"web"}, First: 1, Most: most, Beat: 4})
		b.ticks(3)
		b.revoke("dev")
		b.ticks(5)
		b.leases("web") // revoking a key ends no session
		b.cut("dev")
		b.ticks(ticks)
		b.grant("t", "dev")
		b.ticks(most + few)
		b.leases("web")
		if v := b.Keeper("dev"); !slices.Equal(v.Held, []string{"web"}) {
			t.Errorf("after %d ticks: %+v", ticks, v)
		}
	}
}

// P30.2: Beat may be 2, and must be less than Silent and Life.
func TestBeatLimits(t *testing.T) {
	for beat := 2; beat < 12; beat++ {
		c := small()
		c.Silent, c.Life = beat+1, beat+1
		b := create(t, c)
		b.grant("t", "dev")
		b.keep("dev", "t", keeper.Config{Names: []string{"web", "x"}, First: 1, Most: 1, Beat: beat})
		b.ticks(3)
		for range 60 {
			b.tick()
			if l := b.Relay().Leases(); len(l) != 2 || l[0].Epoch != 1 || l[1].Epoch != 2 {
				t.Fatalf("beat %d: %+v", beat, l)
			}
		}
	}
}
