package home_test

import (
	"slices"
	"testing"

	"speakeasy/api"
	"speakeasy/home"
	"speakeasy/keeper"
	"speakeasy/peer"
	"speakeasy/world"
)

// model is a home as the document says it, beside a world and keepers of its own.
type model struct {
	world   *world.World
	keepers map[string]*keeper.Keeper
	tenants map[string]string
	events  map[string][]peer.Event
	actions map[int]int // how many there were of each kind
	failed  int         // how many of them returned an error
}

func newModel(c world.Config) *model {
	return &model{
		world: world.New(c), keepers: map[string]*keeper.Keeper{}, tenants: map[string]string{},
		events: map[string][]peer.Event{}, actions: map[int]int{},
	}
}

func (m *model) connected(name string) bool { return slices.Contains(m.world.Names(), name) }

func (m *model) kept() []string {
	var l []string
	for name := range m.keepers {
		l = append(l, name)
	}
	slices.Sort(l)
	return l
}

func (m *model) keep(name, tenant string, c keeper.Config) error {
	if len(name) < 1 || len(name) > 16 {
		return api.ErrName
	}
	if m.keepers[name] != nil || m.connected(name) {
		return api.ErrHave
	}
	m.keepers[name] = keeper.New(c)
	m.tenants[name] = tenant
	m.events[name] = nil
	return nil
}

func (m *model) leave(name string) error {
	if m.keepers[name] == nil {
		return api.ErrNone
	}
	delete(m.keepers, name)
	if m.connected(name) {
		m.world.Cut(name)
	}
	return nil
}

func (m *model) vars(name string) keeper.Vars {
	if m.keepers[name] == nil {
		return keeper.Vars{}
	}
	return m.keepers[name].Vars()
}

func (m *model) told(name string) []peer.Event {
	if m.keepers[name] == nil {
		return m.world.Told(name)
	}
	l := m.events[name]
	m.events[name] = nil
	return l
}

func (m *model) tick() {
	m.world.Tick()
	m.world.Run(1000)
	for _, name := range m.kept() {
		k := m.keepers[name]
		var acts []keeper.Act
		for _, e := range m.world.Told(name) { // step 1
			m.events[name] = append(m.events[name], e)
			switch e.Kind {
			case peer.In:
				acts = append(acts, k.Told(keeper.Entered)...)
			case peer.Granted:
				acts = append(acts, k.Told(keeper.Granted)...)
			case peer.Denied:
				acts = append(acts, k.Told(keeper.Denied)...)
			case peer.Refused, peer.Gone:
				acts = append(acts, k.Told(keeper.Lost)...)
			}
		}
		m.execute(name, acts)
		if !m.connected(name) { // step 2
			k.Told(keeper.Lost)
		}
		m.idle(name) // step 3
		m.execute(name, k.Tick())
		m.idle(name) // step 5
	}
	m.world.Run(1000)
}

func (m *model) idle(name string) {
	if m.keepers[name].Vars().State == keeper.Idle && m.connected(name) {
		m.world.Cut(name)
	}
}

func (m *model) execute(name string, acts []keeper.Act) {
	for _, a := range acts {
		var err error
		switch a.Kind {
		case keeper.Connect:
			if err = m.world.Join(name, m.tenants[name]); err != nil {
				m.keepers[name].Told(keeper.Lost)
			}
		case keeper.Ask:
			err = m.world.Forward(name, a.Name)
		case keeper.Ping:
			err = m.world.Beat(name)
		}
		m.actions[a.Kind]++
		if err != nil {
			m.failed++
		}
	}
}

// both is a Home beside its model; its methods call both and compare the results.
type both struct {
	*testing.T
	*home.Home
	model *model
}

func small() world.Config {
	return world.Config{Seed: "s", Conns: 5, Streams: 9, Silent: 50, Names: 4, Life: 50, Window: 64}
}

func create(t *testing.T, c world.Config) *both {
	t.Helper()
	b := &both{T: t, Home: home.New(c), model: newModel(c)}
	if b.Home == nil || b.Home.World == nil {
		t.Fatal("no home")
	}
	b.check()
	return b
}

func same[V comparable](b *both, what string, got V, err error, want V, wrong error) {
	b.Helper()
	if got != want || err != wrong {
		b.Fatalf("%s: %v, %v, not %v, %v", what, got, err, want, wrong)
	}
}

var someNames = []string{"a", "b", "c", "d", "dev", "cli", "a long name, 16.", "a longer name, 17", "\xff\x00", "", "?"}

func equal(v, w keeper.Vars) bool {
	held := slices.Equal(v.Held, w.Held)
	return held && v.State == w.State && v.Clock == w.Clock && v.Due == w.Due && v.Fails == w.Fails && v.Asked == w.Asked
}

// check compares all that can be inspected.
func (b *both) check() {
	b.Helper()
	w := b.model.world
	if !slices.Equal(b.Names(), w.Names()) || !slices.Equal(b.Kept(), b.model.kept()) {
		b.Fatalf("%q are connected, %q kept, not %q, %q", b.Names(), b.Kept(), w.Names(), b.model.kept())
	}
	for _, name := range someNames {
		if v, want := b.Keeper(name), b.model.vars(name); !equal(v, want) || b.In(name) != w.In(name) {
			b.Fatalf("%q: %+v, %v, not %+v, %v", name, v, b.In(name), want, w.In(name))
		}
	}
	r, want := b.Relay(), w.Relay()
	if !slices.Equal(r.Conns(), want.Conns()) || !slices.Equal(r.Leases(), want.Leases()) || !slices.Equal(r.Streams(), want.Streams()) || r.Clock() != want.Clock() {
		b.Fatalf("the relay has %v, %+v, %+v, %d, not %v, %+v, %+v, %d", r.Conns(), r.Leases(), r.Streams(), r.Clock(), want.Conns(), want.Leases(), want.Streams(), want.Clock())
	}
}

func (b *both) keep(name, tenant string, c keeper.Config) {
	b.Helper()
	same(b, "Keep", 0, b.Keep(name, tenant, c), 0, b.model.keep(name, tenant, c))
}

func (b *both) leave(name string) {
	b.Helper()
	same(b, "Leave", 0, b.Leave(name), 0, b.model.leave(name))
}

func (b *both) tick() {
	b.Helper()
	b.Tick()
	b.model.tick()
	b.check()
}

func (b *both) ticks(n int) {
	b.Helper()
	for range n {
		b.tick()
	}
}

// tells compares what a name is told with the model, and returns it.
func (b *both) tells(name string) []peer.Event {
	b.Helper()
	got, want := b.Told(name), b.model.told(name)
	if !slices.Equal(got, want) {
		b.Fatalf("Told(%q): %+v, not %+v", name, got, want)
	}
	return got
}

// told compares what a name is told with the events that the document gives.
func (b *both) told(name string, want ...peer.Event) {
	b.Helper()
	if got := b.tells(name); !slices.Equal(got, want) {
		b.Fatalf("Told(%q): %+v, not %+v", name, got, want)
	}
}

// is compares a keeper with the numbers that the document gives.
func (b *both) is(name string, want keeper.Vars) {
	b.Helper()
	if v := b.Keeper(name); !equal(v, want) {
		b.Fatalf("%q: %+v, not %+v", name, v, want)
	}
}

// leases compares the leases of the relay with aliases.
func (b *both) leases(want ...string) {
	b.Helper()
	var l []string
	for _, x := range b.Relay().Leases() {
		l = append(l, x.Alias)
	}
	if !slices.Equal(l, want) {
		b.Fatalf("%q are leased, not %q", l, want)
	}
}

// The methods of the world.

func (b *both) grant(tenant, name string) {
	b.Helper()
	same(b, "Grant", 0, b.Grant(tenant, name), 0, b.model.world.Grant(tenant, name))
}

func (b *both) revoke(name string) {
	b.Helper()
	got, err := b.Revoke(name)
	want, wrong := b.model.world.Revoke(name)
	same(b, "Revoke", got, err, want, wrong)
}

func (b *both) join(name, tenant string) {
	b.Helper()
	same(b, "Join", 0, b.Join(name, tenant), 0, b.model.world.Join(name, tenant))
}

func (b *both) cut(name string) {
	b.Helper()
	same(b, "Cut", 0, b.Cut(name), 0, b.model.world.Cut(name))
}

func (b *both) run(most int) {
	b.Helper()
	n, rest := b.Home.Run(most)
	want, also := b.model.world.Run(most)
	same(b, "Run", n, nil, want, nil)
	same(b, "Run", rest, nil, also, nil)
}

func (b *both) carry(name string, way, n int) {
	b.Helper()
	same(b, "Carry", 0, b.Carry(name, way, n), 0, b.model.world.Carry(name, way, n))
}

func (b *both) forward(name, alias string) {
	b.Helper()
	same(b, "Forward", 0, b.Forward(name, alias), 0, b.model.world.Forward(name, alias))
}

func (b *both) cancel(name, alias string) {
	b.Helper()
	same(b, "Cancel", 0, b.Cancel(name, alias), 0, b.model.world.Cancel(name, alias))
}

func (b *both) beat(name string) {
	b.Helper()
	same(b, "Beat", 0, b.Beat(name), 0, b.model.world.Beat(name))
}

func (b *both) dial(name, alias, device string) int {
	b.Helper()
	n, err := b.Dial(name, alias, device)
	want, wrong := b.model.world.Dial(name, alias, device)
	same(b, "Dial", n, err, want, wrong)
	return n
}

func (b *both) end(name string, channel int) {
	b.Helper()
	same(b, "End", 0, b.End(name, channel), 0, b.model.world.End(name, channel))
}

func (b *both) say(name string, channel int, s string) {
	b.Helper()
	same(b, "Say", 0, b.Say(name, channel, s), 0, b.model.world.Say(name, channel, s))
}

func (b *both) hear(name string, channel int) string {
	b.Helper()
	got, err := b.Hear(name, channel, 1<<30)
	want, wrong := b.model.world.Hear(name, channel, 1<<30)
	same(b, "Hear", got, err, want, wrong)
	return got
}
