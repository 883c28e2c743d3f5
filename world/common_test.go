package world_test

import (
	"math"
	"slices"
	"testing"

	"speakeasy/api"
	"speakeasy/peer"
	"speakeasy/world"
)

func small() world.Config {
	return world.Config{Seed: "s", Conns: 5, Streams: 9, Silent: 100, Names: 4, Life: 100, Window: 64}
}

// both is a world and its model: each call is made at both, and the results must be
// the same.
type both struct {
	*testing.T
	*world.World
	model *model
}

func create(t *testing.T, c world.Config) *both {
	t.Helper()
	w := world.New(c)
	if w == nil {
		t.Fatal("no world")
	}
	b := &both{T: t, World: w, model: newModel(c)}
	b.check()
	return b
}

// same checks that two results and their errors are the same.
func same[V comparable](b *both, what string, got V, err error, want V, wrong error) {
	b.Helper()
	if got != want || err != wrong {
		b.Fatalf("%s: %v, %v, not %v, %v", what, got, err, want, wrong)
	}
}

func (b *both) grant(tenant, name string) {
	b.Helper()
	same(b, "Grant", 0, b.Grant(tenant, name), 0, b.model.store.Add(tenant, key(b.model.seed, name)))
}

func (b *both) revoke(name string) {
	b.Helper()
	got, err := b.Revoke(name)
	want, wrong := b.model.store.Revoke(key(b.model.seed, name))
	same(b, "Revoke", got, err, want, wrong)
}

func (b *both) join(name, tenant string) {
	b.Helper()
	same(b, "Join", 0, b.Join(name, tenant), 0, b.model.join(name, tenant))
}

func (b *both) cut(name string) {
	b.Helper()
	same(b, "Cut", 0, b.Cut(name), 0, b.model.cut(name))
}

func (b *both) carry(name string, way, n int) {
	b.Helper()
	_, wrong := b.model.carry(name, way, n)
	same(b, "Carry", 0, b.Carry(name, way, n), 0, wrong)
}

func (b *both) forward(name, alias string) {
	b.Helper()
	wrong := api.ErrNone
	if p := b.model.names[name]; p != nil {
		wrong = p.peer.Forward(alias, 80)
	}
	same(b, "Forward", 0, b.Forward(name, alias), 0, wrong)
}

func (b *both) cancel(name, alias string) {
	b.Helper()
	wrong := api.ErrNone
	if p := b.model.names[name]; p != nil {
		wrong = p.peer.Cancel(alias, 80)
	}
	same(b, "Cancel", 0, b.Cancel(name, alias), 0, wrong)
}

func (b *both) beat(name string) {
	b.Helper()
	wrong := api.ErrNone
	if p := b.model.names[name]; p != nil {
		wrong = p.peer.Beat()
	}
	same(b, "Beat", 0, b.Beat(name), 0, wrong)
}

func (b *both) dial(name, alias, device string) (int, error) {
	b.Helper()
	n, err := b.Dial(name, alias, device)
	want, wrong := b.model.dial(name, alias, device)
	same(b, "Dial", n, err, want, wrong)
	return n, err
}

// say tells whether the bytes were accepted.
func (b *both) say(name string, channel int, s string) bool {
	b.Helper()
	wrong := api.ErrNone
	if e := b.model.end(name, channel); e != nil {
		wrong = e.Write(s)
	}
	err := b.Say(name, channel, s)
	same(b, "Say", 0, err, 0, wrong)
	return err == nil
}

func (b *both) hear(name string, channel, n int) string {
	b.Helper()
	want, wrong := "", api.ErrNone
	if e := b.model.end(name, channel); e != nil {
		want, wrong = e.Read(n), nil
	}
	got, err := b.Hear(name, channel, n)
	same(b, "Hear", got, err, want, wrong)
	return got
}

func (b *both) end(name string, channel int) {
	b.Helper()
	wrong := api.ErrNone
	if p := b.model.names[name]; p != nil {
		wrong = p.peer.Close(channel)
	}
	same(b, "End", 0, b.End(name, channel), 0, wrong)
}

func (b *both) tick() {
	b.Tick()
	b.model.relay.Tick()
}

func (b *both) run(most int) bool {
	b.Helper()
	n, ended := b.World.Run(most)
	if want, is := b.model.run(most); n != want || ended != is {
		b.Fatalf("Run(%d): %d, %v, not %d, %v", most, n, ended, want, is)
	}
	return ended
}

// rest runs until nothing is transported any more.
func (b *both) rest() {
	b.Helper()
	for range 60 {
		if b.run(math.MaxInt) {
			b.check()
			return
		}
	}
	b.Fatal("no end")
}

func (b *both) told(name string) []peer.Event {
	b.Helper()
	got, want := b.Told(name), b.model.told(name)
	if !slices.Equal(got, want) {
		b.Fatalf("Told(%q): %+v, not %+v", name, got, want)
	}
	return got
}

// tells checks which events there were.
func (b *both) tells(name string, want ...peer.Event) {
	b.Helper()
	if got := b.told(name); !slices.Equal(got, want) {
		b.Fatalf("Told(%q): %+v, not %+v", name, got, want)
	}
}

// tellsBut checks which events there were, but for those about bytes that came.
func (b *both) tellsBut(name string, want ...peer.Event) {
	b.Helper()
	got := slices.DeleteFunc(b.told(name), func(e peer.Event) bool { return e.Kind == peer.Came })
	if !slices.Equal(got, want) {
		b.Fatalf("Told(%q): %+v, not %+v", name, got, want)
	}
}

// someNames are names that may be connected, and some that cannot be.
var someNames = []string{"a", "b", "c", "d", "a longer name, 16", "a long name, 16.", "\xff\x00", "", "?"}

// check compares what can be asked of the world.
func (b *both) check() {
	b.Helper()
	if l, want := b.Names(), b.model.sorted(); !slices.Equal(l, want) {
		b.Fatalf("%q are connected, not %q", l, want)
	}
	for _, name := range someNames {
		p := b.model.names[name]
		if in := p != nil && p.peer.In(); b.In(name) != in {
			b.Fatalf("In(%q): %v, not %v", name, b.In(name), in)
		}
		for channel := -1; channel < 9; channel++ {
			e := b.model.end(name, channel)
			if ready := e != nil && e.Ready(); b.Ready(name, channel) != ready {
				b.Fatalf("Ready(%q, %d): %v, not %v", name, channel, b.Ready(name, channel), ready)
			}
		}
	}
	r, want := b.Relay(), b.model.relay
	if !slices.Equal(r.Conns(), want.Conns()) || !slices.Equal(r.Leases(), want.Leases()) || !slices.Equal(r.Streams(), want.Streams()) || r.Clock() != want.Clock() {
		b.Fatalf("the relay has %v, %+v, %+v, %d, not %v, %+v, %+v, %d", r.Conns(), r.Leases(), r.Streams(), r.Clock(), want.Conns(), want.Leases(), want.Streams(), want.Clock())
	}
	for _, n := range r.Conns() {
		tenant, in := r.Who(n)
		if also, is := want.Who(n); tenant != also || in != is {
			b.Fatalf("%q, %v on connection %d, not %q, %v", tenant, in, n, also, is)
		}
	}
	if l, want := b.Store().Tenants(), b.model.store.Tenants(); !slices.Equal(l, want) {
		b.Fatalf("tenants %q, not %q", l, want)
	}
	for _, tenant := range b.Store().Tenants() {
		if l, want := b.Store().Keys(tenant), b.model.store.Keys(tenant); !slices.Equal(l, want) {
			b.Fatalf("keys %x, not %x", l, want)
		}
	}
}

// compare checks that the relay has sent, and will send, the same bytes. These are
// lost, so that nothing can be done afterwards.
func (b *both) compare() int {
	b.Helper()
	count := 0
	for _, n := range b.Relay().Conns() {
		got, want := b.Relay().Out(n), b.model.relay.Out(n)
		if got != want {
			b.Fatalf("connection %d: %d bytes are sent, which are not the right %d", n, len(got), len(want))
		}
		count += len(got)
	}
	return count
}

// enter connects names of the tenant t, which log in.
func (b *both) enter(names ...string) {
	b.Helper()
	for _, name := range names {
		b.grant("t", name)
		b.join(name, "t")
	}
	b.rest()
	for _, name := range names {
		b.tells(name, peer.Event{Kind: peer.In})
	}
}

// lease makes a name lease an alias.
func (b *both) lease(name, alias string) {
	b.Helper()
	b.forward(name, alias)
	b.rest()
	b.tells(name, peer.Event{Kind: peer.Granted, Word: alias})
}

// stream dials an alias and returns the channels at both ends.
func (b *both) stream(client, alias, device string) (int, int) {
	b.Helper()
	n, err := b.dial(client, alias, device)
	if err != nil {
		b.Fatalf("Dial: %v", err)
	}
	b.rest()
	l := b.Relay().Streams()
	if len(l) == 0 || !l[len(l)-1].Open || l[len(l)-1].From != n || l[len(l)-1].Alias != alias {
		b.Fatalf("%q has not been dialed: %+v", alias, l)
	}
	return n, l[len(l)-1].To
}
