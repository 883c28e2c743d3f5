package home_test

import (
	"slices"
	"strings"
	"testing"

	"speakeasy/api"
	"speakeasy/keeper"
	"speakeasy/lease"
	"speakeasy/peer"
)

// The events that most tests are about.
var (
	in      = peer.Event{Kind: peer.In}
	refused = peer.Event{Kind: peer.Refused}
	gone    = peer.Event{Kind: peer.Gone}
	beaten  = peer.Event{Kind: peer.Granted}
)

func granted(alias string) peer.Event { return peer.Event{Kind: peer.Granted, Word: alias} }

func denied(alias string) peer.Event { return peer.Event{Kind: peer.Denied, Word: alias} }

func wants(names ...string) keeper.Config {
	return keeper.Config{Names: names, First: 2, Most: 5, Beat: 10}
}

// P30.1: the example of the document, tick by tick.
func TestExample(t *testing.T) {
	b := create(t, small())
	b.grant("t", "dev")
	b.keep("dev", "t", wants("web"))
	b.is("dev", keeper.Vars{Due: 1})
	if len(b.Names()) != 0 || !slices.Equal(b.Kept(), []string{"dev"}) {
		t.Errorf("%q, %q", b.Names(), b.Kept())
	}
	b.tick()
	b.is("dev", keeper.Vars{State: keeper.Trying, Clock: 1})
	if !b.In("dev") { // by the second Run
		t.Error("not logged in")
	}
	b.leases()
	b.told("dev")
	b.tick()
	b.is("dev", keeper.Vars{State: keeper.In, Clock: 2, Asked: 1})
	if l := b.Relay().Leases(); !slices.Equal(l, []lease.Lease{{Tenant: "t", Alias: "web", Epoch: 1, Last: 2}}) {
		t.Errorf("%+v", l)
	}
	b.told("dev", in)
	b.tick()
	b.is("dev", keeper.Vars{State: keeper.In, Clock: 3, Held: []string{"web"}})
	b.told("dev", granted("web"))
	b.told("dev")
}

// P30.1: whom Keep accepts, and in which order it finds errors.
func TestKeep(t *testing.T) {
	b := create(t, small())
	longest := strings.Repeat("n", 16)
	b.join("a", "t")
	b.join("b", "t")
	b.run(100) // both are refused, and remain connected
	b.cut("b")
	for _, want := range []struct {
		name string
		err  error
	}{
		{"", api.ErrName}, {longest + "n", api.ErrName}, {strings.Repeat("n", 999), api.ErrName},
		{"a", api.ErrHave}, {"b", nil}, {"b", api.ErrHave}, {longest, nil}, {longest, api.ErrHave}, {"\x00", nil}, {"n", nil}, {"", api.ErrName},
	} {
		if err := b.Keep(want.name, "t", wants("x")); err != want.err {
			t.Errorf("%q: %v, not %v", want.name, err, want.err)
		}
	}
	if l := b.Kept(); !slices.Equal(l, []string{"\x00", "b", "n", longest}) || !slices.Equal(b.Names(), []string{"a"}) {
		t.Errorf("%q", l)
	}
	b.Cut("a")
	if err := b.Keep("a", "t", wants()); err != nil {
		t.Error(err)
	}
	b.Tick()
	for _, name := range b.Kept() { // which are connected now
		if err := b.Keep(name, "t", wants("x")); err != api.ErrHave {
			t.Errorf("%q: %v", name, err)
		}
	}
	if l := b.Names(); !slices.Equal(l, []string{"\x00", "a", "b", "n", longest}) {
		t.Errorf("%q", l)
	}
}

// P30.1: Leave disconnects whoever is kept, and nobody else.
func TestLeave(t *testing.T) {
	b := create(t, small())
	for _, name := range []string{"dev", "a", "cli"} {
		b.grant("t", name)
	}
	b.join("cli", "t")
	b.keep("dev", "t", wants("web"))
	b.keep("a", "t", wants("x"))
	b.ticks(3)
	b.leases("web", "x")
	for _, name := range []string{"cli", "nobody", "", strings.Repeat("n", 17)} {
		if err := b.Leave(name); err != api.ErrNone {
			t.Errorf("%q: %v", name, err)
		}
	}
	b.leave("dev")
	b.leases("x")
	b.is("dev", keeper.Vars{})
	if !slices.Equal(b.Kept(), []string{"a"}) || !slices.Equal(b.Names(), []string{"a", "cli"}) {
		t.Errorf("%q, %q", b.Kept(), b.Names())
	}
	b.leave("dev") // ErrNone
	b.ticks(9)
	b.told("dev")
	if slices.Contains(b.Names(), "dev") {
		t.Error("it has come back")
	}
	b.cut("a")
	b.leave("a") // which is not connected
	b.keep("a", "t", wants("y"))
	b.leave("a") // nor has it been
	b.keep("dev", "t", wants("z"))
	b.is("dev", keeper.Vars{Due: 1})
	b.ticks(2)
	b.leases("z")
}

// P30.1: a new keeper knows nothing of the one that was removed.
func TestKeepAgain(t *testing.T) {
	b := create(t, small())
	b.keep("dev", "t", wants("x"))
	b.ticks(3)
	b.is("dev", keeper.Vars{State: keeper.Trying, Clock: 3, Fails: 1})
	b.leave("dev")
	b.grant("u", "dev")
	b.keep("dev", "u", wants("y"))
	b.told("dev")
	b.is("dev", keeper.Vars{Due: 1})
	b.ticks(3)
	b.is("dev", keeper.Vars{State: keeper.In, Clock: 3, Held: []string{"y"}})
	b.told("dev", in, granted("y"))
	if l := b.Relay().Leases(); len(l) != 1 || l[0].Tenant != "u" {
		t.Errorf("%+v", l)
	}
}

// P30.1: names are processed in ascending order.
func TestOrder(t *testing.T) {
	b := create(t, small())
	for _, name := range []string{"c", "dev", "a", "b"} {
		b.grant("t", name)
		b.keep(name, "t", wants("of-"+name))
	}
	b.ticks(2)
	for i, l := range b.Relay().Leases() {
		if name := []string{"a", "b", "c", "dev"}[i]; l.Alias != "of-"+name || l.Owner != i {
			t.Errorf("%+v", l)
		}
	}
	b.ticks(1)
	b.leases("of-a", "of-b", "of-c", "of-dev")
}

// P30.1: a device that was cut waits, and connects again.
func TestCut(t *testing.T) {
	b := create(t, small())
	b.grant("t", "dev")
	b.keep("dev", "t", wants("web"))
	b.ticks(4)
	b.cut("dev")
	b.leases()
	b.is("dev", keeper.Vars{State: keeper.In, Clock: 4, Held: []string{"web"}})
	b.tick()
	b.is("dev", keeper.Vars{Clock: 5, Due: 6, Fails: 1})
	b.told("dev", in, granted("web"))
	b.tick()
	b.is("dev", keeper.Vars{State: keeper.Trying, Clock: 6, Fails: 1})
	b.cut("dev") // which is logged in, but the keeper has not been told
	b.tick()
	b.is("dev", keeper.Vars{Clock: 7, Due: 10, Fails: 2})
	b.ticks(3)
	b.tick()
	b.leases("web")
	b.is("dev", keeper.Vars{State: keeper.In, Clock: 11, Asked: 1})
	b.told("dev", in)
}

// P30.1: a device that is refused is told so, is cut, and tries again.
func TestRefused(t *testing.T) {
	b := create(t, small())
	b.grant("u", "dev")
	b.keep("dev", "t", wants("web"))
	clock := 1
	for n, wait := range []int{2, 4, 5, 5} {
		b.tick()
		b.is("dev", keeper.Vars{State: keeper.Trying, Clock: clock, Fails: n})
		if !slices.Equal(b.Names(), []string{"dev"}) || b.In("dev") {
			t.Errorf("%q", b.Names())
		}
		for i := range wait - 1 {
			b.tick()
			b.is("dev", keeper.Vars{Clock: clock + 1 + i, Due: clock + wait, Fails: n + 1})
			if len(b.Names()) != 0 || len(b.Relay().Conns()) != 0 {
				t.Errorf("%q", b.Names())
			}
		}
		b.told("dev", refused, gone)
		clock += wait
	}
	b.revoke("dev")
	b.grant("t", "dev")
	b.ticks(3)
	b.is("dev", keeper.Vars{State: keeper.In, Clock: clock + 2, Held: []string{"web"}})
	b.told("dev", in, granted("web"))
}

// P30.1: a device that waits for a single tick is cut and joins within one Tick.
func TestShortWait(t *testing.T) {
	b := create(t, small())
	b.keep("dev", "t", keeper.Config{First: 1, Most: 1, Beat: 9})
	for n := range 9 {
		b.tick()
		b.is("dev", keeper.Vars{State: keeper.Trying, Clock: n + 1, Fails: n})
		if l := b.Names(); !slices.Equal(l, []string{"dev"}) {
			t.Errorf("%q", l)
		}
	}
	if l := b.tells("dev"); len(l) != 16 || l[14] != refused || l[15] != gone {
		t.Errorf("%+v", l)
	}
}

// P30.1: if there are too many connections, the keeper is told Lost at once.
func TestFull(t *testing.T) {
	c := small()
	c.Conns = 1
	b := create(t, c)
	for _, name := range []string{"a", "b"} {
		b.grant("t", name)
		b.keep(name, "t", wants("of-"+name))
	}
	b.tick()
	b.is("a", keeper.Vars{State: keeper.Trying, Clock: 1})
	b.is("b", keeper.Vars{Clock: 1, Due: 3, Fails: 1})
	b.ticks(2)
	b.is("a", keeper.Vars{State: keeper.In, Clock: 3, Held: []string{"of-a"}})
	b.is("b", keeper.Vars{Clock: 3, Due: 7, Fails: 2})
	b.leave("a")
	b.ticks(6)
	b.is("b", keeper.Vars{State: keeper.In, Clock: 9, Held: []string{"of-b"}})
	b.told("b", in, granted("of-b"))
}

// P30.1: what was denied is asked for again with each Ping.
func TestDenied(t *testing.T) {
	c := small()
	c.Names = 2
	b := create(t, c)
	b.grant("t", "dev")
	b.grant("t", "cli")
	b.join("cli", "t")
	b.run(100)
	b.forward("cli", "x")
	b.run(100)
	config := wants("web", "A", "ssh", "web")
	config.Beat = 4
	b.keep("dev", "t", config)
	b.ticks(3)
	b.is("dev", keeper.Vars{State: keeper.In, Clock: 3, Held: []string{"web"}})
	b.told("dev", in, granted("web"), denied("A"), denied("ssh"), denied("web"))
	b.ticks(2)
	b.is("dev", keeper.Vars{State: keeper.In, Clock: 5, Asked: 4, Held: []string{"web"}})
	b.tick()
	b.is("dev", keeper.Vars{State: keeper.In, Clock: 6, Held: []string{"web"}})
	b.told("dev", beaten, denied("A"), denied("ssh"), denied("web"))
	b.cancel("cli", "x")
	b.ticks(4)
	b.is("dev", keeper.Vars{State: keeper.In, Clock: 10, Held: []string{"web", "ssh"}})
	b.told("dev", beaten, denied("A"), granted("ssh"), denied("web"))
	b.leases("ssh", "web")
}

// P30.1: heartbeats are those of the relay, which keep the leases; they come in time.
func TestBeat(t *testing.T) {
	c := small()
	c.Life, c.Silent = 4, 4
	b := create(t, c)
	b.grant("t", "dev")
	config := wants("web")
	config.Beat = 3
	b.keep("dev", "t", config)
	b.ticks(2)
	for tick := 3; tick < 40; tick++ {
		b.tick()
		last := max(2, tick-(tick-1)%3) // it is leased at tick 2, and kept at 4, 7, ..
		if l := b.Relay().Leases(); len(l) != 1 || l[0].Epoch != 1 || l[0].Last != last {
			t.Fatalf("%d: %+v", tick, l)
		}
	}
}

// P30.1: a device that the relay has ended for its silence is cut, and comes back.
func TestGone(t *testing.T) {
	c := small()
	c.Silent = 4
	b := create(t, c)
	b.grant("t", "dev")
	b.keep("dev", "t", wants("web"))
	b.ticks(5)
	b.is("dev", keeper.Vars{State: keeper.In, Clock: 5, Held: []string{"web"}})
	b.tick() // the last bytes were heard at tick 2
	b.is("dev", keeper.Vars{Clock: 6, Due: 7, Fails: 1})
	b.told("dev", in, granted("web"), gone)
	if len(b.Names()) != 0 || len(b.Relay().Conns()) != 0 {
		t.Errorf("%q", b.Names())
	}
	b.ticks(2)
	b.leases("web")
	b.told("dev", in)
}

// P30.1: a keeper that hangs up has its device cut in the same Tick.
func TestHang(t *testing.T) {
	b := create(t, small())
	b.grant("t", "dev")
	b.keep("dev", "t", keeper.Config{Names: []string{"web"}, First: 3, Most: 5, Beat: 1})
	b.tick()
	b.tick() // no answer comes between Entered and the Tick of the keeper
	b.is("dev", keeper.Vars{Clock: 2, Due: 5, Fails: 1})
	b.told("dev", in)
	b.leases()
	if len(b.Names()) != 0 || len(b.Relay().Conns()) != 0 {
		t.Errorf("%q", b.Names())
	}
}

// P30.1: errors of Forward are ignored: such a request is never answered.
func TestLongAlias(t *testing.T) {
	b := create(t, small())
	b.grant("t", "dev")
	config := wants(strings.Repeat("x", 256), "web")
	config.Beat = 4
	b.keep("dev", "t", config)
	b.ticks(3)
	b.is("dev", keeper.Vars{State: keeper.In, Clock: 3, Asked: 1, Held: config.Names[:1]}) // the answer to the oldest request
	b.leases("web")
	b.tick()
	b.is("dev", keeper.Vars{State: keeper.In, Clock: 4, Asked: 1, Held: config.Names[:1]})
	b.tick()
	b.is("dev", keeper.Vars{Clock: 5, Due: 7, Fails: 1})
	b.told("dev", in, granted("web"))
}

// P30.1: events of channels are no answers, even if the keeper waits for one.
func TestOtherEvents(t *testing.T) {
	b := create(t, small())
	b.grant("t", "dev")
	config := wants(strings.Repeat("x", 256), "web")
	b.keep("dev", "t", config)
	b.ticks(2)
	b.leases("web")
	n := b.dial("dev", "web", "dev")
	b.dial("dev", "nobody", "dev")
	b.ticks(2)
	b.end("dev", n)
	b.ticks(2)
	b.is("dev", keeper.Vars{State: keeper.In, Clock: 6, Asked: 1, Held: config.Names[:1]})
	seen := map[int]bool{}
	for _, e := range b.tells("dev") {
		seen[e.Kind] = true
	}
	for _, kind := range []int{peer.Asked, peer.Confirmed, peer.Failed, peer.Came, peer.Closed} {
		if !seen[kind] {
			t.Errorf("no event of kind %d", kind)
		}
	}
}

// P30.1: a kept name that somebody has connected while its keeper is Idle is cut; what
// it was told is not for that keeper.
func TestStranger(t *testing.T) {
	b := create(t, small())
	b.grant("t", "dev")
	b.keep("dev", "t", keeper.Config{Names: []string{"web"}, First: 5, Most: 5, Beat: 9})
	b.join("dev", "t")
	b.run(100)
	b.forward("dev", "x")
	b.run(100)
	b.leases("x")
	b.tick() // it is cut, and joins again
	b.leases()
	b.is("dev", keeper.Vars{State: keeper.Trying, Clock: 1})
	b.told("dev", in, granted("x"))
	b.cut("dev")
	b.tick()
	b.join("dev", "t")
	b.tick()
	b.is("dev", keeper.Vars{Clock: 3, Due: 6, Fails: 1})
	b.told("dev", in)
	if len(b.Names()) != 0 {
		t.Errorf("%q", b.Names())
	}
	b.ticks(3)
	b.cut("dev")
	b.join("dev", "t") // while the keeper is Trying
	b.tick()
	b.is("dev", keeper.Vars{State: keeper.In, Clock: 7, Asked: 1})
	b.leases("web")
}

// P30.1: Told for names that are kept, and for those that are not.
func TestTold(t *testing.T) {
	b := create(t, small())
	for _, name := range []string{"dev", "cli"} {
		b.grant("t", name)
	}
	b.keep("dev", "t", wants("web", "A"))
	b.join("cli", "t")
	b.run(100)
	b.told("cli", in)
	b.told("dev")
	b.ticks(2)
	b.forward("cli", "x")
	b.run(100)
	b.told("cli", granted("x")) // it is not kept, so that Tick does not read its events
	b.told("dev", in)           // what came since the last Tick is read by the next one
	b.told("dev")
	b.tick()
	b.told("dev", granted("web"), denied("A"))
	b.told("nobody")
	b.told("")
	b.beat("cli")
	b.tick()
	b.told("cli", beaten)
	b.ticks(9)
	b.cut("dev")
	b.told("dev", beaten, denied("A")) // which Tick has read before
	b.told("dev")
}

// P30.1: events that do not concern the keeper are told as well; the methods of the
// world are those of the home.
func TestStream(t *testing.T) {
	b := create(t, small())
	b.grant("t", "dev")
	b.grant("t", "cli")
	b.keep("dev", "t", wants("web"))
	b.join("cli", "t")
	b.ticks(3)
	b.told("dev", in, granted("web"))
	b.told("cli", in)
	n := b.dial("cli", "web", "dev")
	b.tick()
	b.say("cli", n, "hello")
	b.tick()
	if !b.Ready("cli", n) || b.hear("dev", 0) != "hello" {
		t.Error("not heard")
	}
	b.is("dev", keeper.Vars{State: keeper.In, Clock: 5, Held: []string{"web"}})
	b.end("cli", n)
	b.ticks(2)
	l := slices.DeleteFunc(b.tells("dev"), func(e peer.Event) bool { return e.Kind == peer.Came })
	if !slices.Equal(l, []peer.Event{{Kind: peer.Asked, Word: "web", Port: 80}, {Kind: peer.Closed}}) {
		t.Errorf("%+v", l)
	}
	b.is("dev", keeper.Vars{State: keeper.In, Clock: 7, Held: []string{"web"}})
}

// P30.1: answers to requests of somebody else are answers for the keeper, too, if it
// waits for one.
func TestForeignAnswer(t *testing.T) {
	b := create(t, small())
	b.grant("t", "dev")
	b.keep("dev", "t", wants("web", "x"))
	b.tick()
	b.forward("dev", "A") // which is logged in already
	b.tick()
	b.told("dev", in, denied("A"))
	b.is("dev", keeper.Vars{State: keeper.In, Clock: 2, Asked: 1})
	b.tick()
	b.told("dev", granted("web"), granted("x"))
	b.is("dev", keeper.Vars{State: keeper.In, Clock: 3, Held: []string{"x"}})
}

// P30.1: Tick performs two Runs of up to 1000 rounds, and advances the clock once.
func TestRounds(t *testing.T) {
	c := small()
	c.Window = 1
	b := create(t, c)
	b.grant("t", "dev")
	b.grant("t", "cli")
	b.join("cli", "t")
	b.join("dev", "t")
	b.run(1000)
	b.forward("dev", "web")
	b.run(1000)
	n := b.dial("cli", "web", "dev")
	b.run(1000)
	for range 1000 {
		b.say("cli", n, "0123456789") // which is sent in a packet of its own
	}
	b.run(1000)
	once := len(b.hear("dev", 0))
	for range 4 {
		b.tick()
		if s := b.hear("dev", 0); once < 200 || len(s) < 2*once-30 || len(s) > 2*once+30 {
			t.Errorf("%d bytes, and %d by one Run", len(s), once)
		}
	}
	if b.Relay().Clock() != 4 {
		t.Errorf("%d", b.Relay().Clock())
	}
}

// Rule 5: a home keeps no arguments, and shares no results.
func TestMemory(t *testing.T) {
	b := create(t, small())
	b.grant("t", "dev")
	names := []string{"web", "x"}
	b.Keep("dev", "t", wants(names...))
	clear(names)
	clear(b.Kept())
	b.Tick()
	b.Tick()
	clear(b.Told("dev"))
	b.Tick()
	clear(b.Keeper("dev").Held)
	if v := b.Keeper("dev"); !slices.Equal(v.Held, []string{"web", "x"}) || !slices.Equal(b.Kept(), []string{"dev"}) {
		t.Errorf("%+v, %q", v, b.Kept())
	}
	if l := b.Told("dev"); !slices.Equal(l, []peer.Event{granted("web"), granted("x")}) {
		t.Errorf("%+v", l)
	}
}
