package world_test

import (
	"math"
	"slices"
	"strings"
	"testing"

	"speakeasy/api"
	"speakeasy/lease"
	"speakeasy/peer"
	"speakeasy/world"
)

// P26.1: the example of the document.
func TestExample(t *testing.T) {
	w := world.New(small())
	if g, j := w.Grant("t", "dev"), w.Join("dev", "t"); g != nil || j != nil || w.In("dev") {
		t.Fatalf("%v, %v", g, j)
	}
	if n, ended := w.Run(500); n < 3 || n > 50 || !ended || !w.In("dev") {
		t.Errorf("%d, %v, logged in: %v", n, ended, w.In("dev"))
	}
	if l := w.Told("dev"); !slices.Equal(l, []peer.Event{{Kind: peer.In}}) {
		t.Errorf("%+v", l)
	}
}

// P26.1: Grant and Revoke change the store.
func TestGrant(t *testing.T) {
	b := create(t, small())
	b.grant("t", "a")
	b.grant("t", "b")
	b.grant("u", "c")
	b.grant("t", "")
	b.grant("u", strings.Repeat("long", 99))
	if l := b.Store().Keys("t"); !slices.Equal(l, [][32]byte{key("s", "a"), key("s", "b"), key("s", "")}) {
		t.Errorf("%x", l)
	}
	for tenant, want := range map[string]error{"t": api.ErrHave, "u": api.ErrHave, "T": api.ErrName, "": api.ErrName} {
		if err := b.Grant(tenant, "a"); err != want {
			t.Errorf("%q: %v", tenant, err)
		}
	}
	if tenant, err := b.Revoke("nobody"); tenant != "" || err != api.ErrNone {
		t.Errorf("%q, %v", tenant, err)
	}
	if tenant, err := b.Revoke("c"); tenant != "u" || err != nil {
		t.Errorf("%q, %v", tenant, err)
	}
	if tenant, err := b.Revoke("c"); tenant != "" || err != api.ErrNone {
		t.Errorf("%q, %v", tenant, err)
	}
}

// P26.1: the store has 16 tenants with 16 keys each.
func TestStoreSize(t *testing.T) {
	b := create(t, small())
	name := func(n int) string { return strings.Repeat("x", n) }
	for n := range 16 {
		if err := b.Grant("t", name(n)); err != nil {
			t.Fatalf("key %d: %v", n, err)
		}
	}
	if err := b.Grant("t", name(16)); err != api.ErrQuota {
		t.Errorf("%v", err)
	}
	for n := range 15 {
		if err := b.Grant("u"+name(n), name(20+n)); err != nil {
			t.Fatalf("tenant %d: %v", n, err)
		}
	}
	if err := b.Grant("v", name(50)); err != api.ErrFull {
		t.Errorf("%v", err)
	}
}

// P26.1: who may join, and in which order errors are found.
func TestJoin(t *testing.T) {
	c := small()
	c.Conns = 3
	b := create(t, c)
	longest := strings.Repeat("n", 16)
	for _, want := range []struct {
		name string
		err  error
	}{
		{"", api.ErrName}, {longest + "n", api.ErrName}, {"a", nil}, {"a", api.ErrHave}, {longest, nil}, {"\x00", nil},
		{"d", api.ErrFull}, {"a", api.ErrHave}, {"", api.ErrName}, {strings.Repeat("n", 999), api.ErrName},
	} {
		if err := b.Join(want.name, "t"); err != want.err {
			t.Fatalf("%q: %v", want.name, err)
		}
	}
	if l := b.Names(); !slices.Equal(l, []string{"\x00", "a", longest}) || !slices.Equal(b.Relay().Conns(), []int{0, 1, 2}) {
		t.Errorf("%q", l)
	}
	if err := b.Cut("a"); err != nil {
		t.Fatal(err)
	}
	if err := b.Join("d", "t"); err != nil || !slices.Equal(b.Names(), []string{"\x00", "d", longest}) || !slices.Equal(b.Relay().Conns(), []int{1, 2, 3}) {
		t.Errorf("%v, %q", err, b.Names())
	}
}

// P26.1: a name whose key the tenant does not have is refused, but it remains
// connected.
func TestRefused(t *testing.T) {
	b := create(t, small())
	refused := []peer.Event{{Kind: peer.Refused}, {Kind: peer.Gone}}
	b.grant("u", "b")
	b.grant("t", "c")
	b.revoke("c")
	for _, name := range []string{"a", "b", "c"} {
		b.join(name, "t")
		b.rest()
		b.tells(name, refused...)
		if b.In(name) || len(b.Relay().Conns()) != 0 || b.Join(name, "t") != api.ErrHave || b.Beat(name) != api.ErrState {
			t.Errorf("%s", name)
		}
	}
	b.cut("b")
	b.join("b", "u")
	b.rest()
	if !b.In("b") || !slices.Equal(b.Names(), []string{"a", "b", "c"}) || !slices.Equal(b.Relay().Conns(), []int{3}) {
		t.Errorf("%q", b.Names())
	}
	b.join("d", strings.Repeat("t", 40000)) // a request that no packet can hold
	b.rest()
	b.tells("d", peer.Event{Kind: peer.Gone})
}

// P26.1: what is not connected has nothing.
func TestNobody(t *testing.T) {
	b := create(t, small())
	b.enter("a", "c")
	b.cut("c")
	for _, name := range []string{"c", "b", "", strings.Repeat("n", 17)} {
		for _, way := range []int{0, 1, 2, -1} {
			if err := b.Carry(name, way, 9); err != api.ErrNone {
				t.Errorf("Carry: %v", err)
			}
		}
		for _, err := range []error{
			b.Cut(name), b.Forward(name, "x"), b.Forward(name, strings.Repeat("x", 999)), b.Cancel(name, "x"),
			b.Beat(name), b.Say(name, 0, "x"), b.Say(name, -1, ""), b.End(name, 0),
		} {
			if err != api.ErrNone {
				t.Errorf("%v", err)
			}
		}
		if n, err := b.Dial(name, "x", "a"); n != 0 || err != api.ErrNone {
			t.Errorf("Dial: %d, %v", n, err)
		}
		if s, err := b.Hear(name, 0, 9); s != "" || err != api.ErrNone {
			t.Errorf("Hear: %q, %v", s, err)
		}
		if l := b.Told(name); len(l) != 0 || b.In(name) || b.Ready(name, 0) {
			t.Errorf("%+v", l)
		}
	}
	b.check()
}

// P26.1: Carry needs a direction; how many bytes it is to transport is limited.
func TestCarryArguments(t *testing.T) {
	b := create(t, small())
	b.grant("t", "a")
	b.join("a", "t")
	for _, way := range []int{2, -1, math.MinInt, math.MaxInt, 1 << 32, 1<<32 + 1} {
		if err := b.Carry("a", way, 9); err != api.ErrArg {
			t.Errorf("%d: %v", way, err)
		}
	}
	for _, n := range []int{0, -1, math.MinInt} {
		for range 30 {
			b.carry("a", 0, n)
			b.carry("a", 1, n)
		}
	}
	if b.In("a") || len(b.told("a")) != 0 {
		t.Error("bytes came")
	}
	for range 9 {
		b.carry("a", 0, math.MaxInt)
		b.carry("a", 1, math.MaxInt)
	}
	b.check()
	if !b.In("a") {
		t.Error("not logged in")
	}
}

// P26.1: what a peer refuses to request.
func TestRequestErrors(t *testing.T) {
	b := create(t, small())
	b.join("a", "t")
	long := strings.Repeat("x", 256)
	for _, alias := range []string{"x", "", long} {
		n, err := b.Dial("a", alias, "a")
		for _, err := range []error{err, b.Forward("a", alias), b.Cancel("a", alias), b.Beat("a")} {
			if n != 0 || err != api.ErrState {
				t.Errorf("%d, %v", n, err)
			}
		}
	}
	b.cut("a")
	b.enter("b")
	n, err := b.Dial("b", long, "a")
	for _, err := range []error{err, b.Forward("b", long), b.Cancel("b", long)} {
		if n != 0 || err != api.ErrBig {
			t.Errorf("%d, %v", n, err)
		}
	}
	for _, channel := range []int{0, -1, 8, math.MinInt, math.MaxInt} {
		s, err := b.Hear("b", channel, 1)
		for _, err := range []error{err, b.Say("b", channel, "x"), b.End("b", channel)} {
			if s != "" || err != api.ErrNone {
				t.Errorf("%d: %q, %v", channel, s, err)
			}
		}
	}
	b.rest()
	b.tells("b")
}

// P26.1: leases are requested, kept and given back, for the port 80.
func TestLeases(t *testing.T) {
	c := small()
	c.Names, c.Life = 2, 3
	b := create(t, c)
	b.enter("a", "b")
	b.lease("a", "x")
	for _, alias := range []string{"x", "A", "", "y", "z"} {
		b.forward("a", alias)
	}
	b.tick()
	b.beat("a")
	b.rest()
	b.tells("a", peer.Event{Kind: peer.Denied, Word: "x"}, peer.Event{Kind: peer.Denied, Word: "A"}, peer.Event{Kind: peer.Denied},
		peer.Event{Kind: peer.Granted, Word: "y"}, peer.Event{Kind: peer.Denied, Word: "z"}, peer.Event{Kind: peer.Granted})
	if l := b.Relay().Leases(); !slices.Equal(l, []lease.Lease{{Tenant: "t", Alias: "x", Epoch: 1, Last: 1}, {Tenant: "t", Alias: "y", Epoch: 2, Last: 1}}) {
		t.Errorf("%+v", l)
	}
	b.cancel("b", "x")
	b.cancel("a", "x")
	b.rest()
	b.tells("b", peer.Event{Kind: peer.Denied, Word: "x"})
	b.tells("a", peer.Event{Kind: peer.Granted, Word: "x"})
	b.forward("b", "y") // takes the name over
	for range 2 {
		b.rest()
		b.tick()
	}
	if l := b.Relay().Leases(); !slices.Equal(l, []lease.Lease{{Tenant: "t", Alias: "y", Owner: 1, Epoch: 3, Last: 1}}) {
		t.Errorf("%+v", l)
	}
	b.tick()
	if l := b.Relay().Leases(); len(l) != 0 || b.Relay().Clock() != 4 {
		t.Errorf("%+v", l)
	}
}

// P26.1: 64 leases are permitted in total.
func TestAllLeases(t *testing.T) {
	c := small()
	c.Names = 99
	b := create(t, c)
	b.enter("a")
	b.grant("u", "b")
	b.join("b", "u")
	for i := range 65 {
		b.Forward("a", "x"+string([]byte{'a' + byte(i/26), 'a' + byte(i%26)}))
	}
	b.World.Run(1000)
	b.Forward("b", "x")
	b.World.Run(1000)
	l := b.Told("a")
	kinds := map[int]int{}
	for _, e := range l {
		kinds[e.Kind]++
	}
	if kinds[peer.Granted] != 64 || kinds[peer.Denied] != 1 || len(b.Relay().Leases()) != 64 {
		t.Errorf("%v", kinds)
	}
	if l := b.Told("b"); !slices.Equal(l, []peer.Event{{Kind: peer.In}, {Kind: peer.Denied, Word: "x"}}) {
		t.Errorf("%+v", l)
	}
}

// P26.1: a name that has been silent for too long is ended by the relay; it remains
// connected until it is cut.
func TestSilent(t *testing.T) {
	c := small()
	c.Silent = 3
	b := create(t, c)
	b.enter("a", "b")
	b.lease("a", "x")
	b.tick()
	b.tick()
	b.beat("b")
	b.rest()
	b.told("b")
	b.tick()
	if l := b.Relay().Conns(); !slices.Equal(l, []int{1}) || !b.In("a") || len(b.Relay().Leases()) != 0 {
		t.Errorf("%v", l)
	}
	b.beat("a")
	b.rest()
	b.tells("a", peer.Event{Kind: peer.Gone})
	b.tells("b")
	if b.In("a") || !b.In("b") || !slices.Equal(b.Names(), []string{"a", "b"}) || b.Join("a", "t") != api.ErrHave {
		t.Errorf("%q", b.Names())
	}
	b.cut("a")
	b.join("a", "t")
	b.rest()
	b.tells("a", peer.Event{Kind: peer.In})
}

// P26.1: a channel to nobody, and more streams than the tenant may have.
func TestDialFails(t *testing.T) {
	c := small()
	c.Streams = 2
	b := create(t, c)
	b.enter("a", "b")
	b.lease("a", "x")
	b.dial("b", "y", "a")
	b.rest()
	b.tells("b", peer.Event{Kind: peer.Failed, Reason: 2})
	if b.Say("b", 0, "") != api.ErrNone || b.Ready("b", 0) {
		t.Error("a session with nobody")
	}
	for n := range 3 {
		if got, err := b.dial("b", "x", "a"); got != n || err != nil {
			t.Fatal(got, err)
		}
	}
	b.rest()
	b.tellsBut("b", peer.Event{Kind: peer.Failed, Channel: 2, Reason: 4}, peer.Event{Kind: peer.Confirmed}, peer.Event{Kind: peer.Confirmed, Channel: 1})
}
