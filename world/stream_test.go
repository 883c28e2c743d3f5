package world_test

import (
	"math"
	"slices"
	"strings"
	"testing"

	"speakeasy/api"
	"speakeasy/peer"
	"speakeasy/relay"
)

// talking returns a world with a stream from b to a, and the channels of both.
func talking(t *testing.T, window int) (*both, int, int) {
	t.Helper()
	c := small()
	c.Window = window
	b := create(t, c)
	b.enter("a", "b")
	b.lease("a", "x")
	from, to := b.stream("b", "x", "a")
	return b, from, to
}

// is checks whether the inner session of a channel is ready.
func (b *both) is(name string, channel int, ready bool) {
	b.Helper()
	if b.Ready(name, channel) != ready {
		b.Fatalf("Ready(%q, %d): %v", name, channel, !ready)
	}
}

// says makes a name say bytes on a channel, which must be possible.
func (b *both) says(name string, channel int, s string) {
	b.Helper()
	if !b.say(name, channel, s) {
		b.Fatalf("Say(%q, %d)", name, channel)
	}
}

// hears checks which bytes are heard, all of them.
func (b *both) hears(name string, channel int, want string) {
	b.Helper()
	if s := b.hear(name, channel, math.MaxInt); s != want {
		b.Fatalf("Hear(%q, %d): %.200q, not %.200q", name, channel, s, want)
	}
}

// P26.1, P26.2: what is said at one end is heard at the other one.
func TestTalk(t *testing.T) {
	for _, window := range []int{1, 2, 15, 16, 17, 64, 5000, 1 << 24} {
		b, from, to := talking(t, window)
		b.is("b", from, true)
		b.is("a", to, true)
		b.tellsBut("a", peer.Event{Kind: peer.Asked, Channel: to, Word: "x", Port: 80})
		b.tellsBut("b", peer.Event{Kind: peer.Confirmed, Channel: from})
		if l := b.Relay().Streams(); !slices.Equal(l, []relay.Stream{{Tenant: "t", Alias: "x", Epoch: 1, Client: 1, From: from, Device: 0, To: to, Open: true}}) {
			t.Errorf("%+v", l)
		}
		b.hears("a", to, "")
		b.says("b", from, "abc")
		b.says("b", from, "")
		b.says("b", from, "def")
		b.hears("a", to, "")
		b.rest()
		for n, want := range map[int]string{-1: "", 0: "", math.MinInt: ""} {
			if s := b.hear("a", to, n); s != want {
				t.Errorf("%d: %q", n, s)
			}
		}
		if s := b.hear("a", to, 2); s != "ab" {
			t.Errorf("%q", s)
		}
		b.hears("a", to, "cdef")
		b.hears("a", to, "")
		b.says("a", to, "the answer")
		b.rest()
		b.hears("b", from, "the answer")
		b.hears("a", to, "")
	}
}

// P26.1, P26.3: more is said than a channel and a link hold.
func TestMuch(t *testing.T) {
	for _, window := range []int{50, 3000, 1 << 24} {
		b, from, to := talking(t, window)
		long := strings.Repeat("0123456789", 4000)
		b.says("b", from, long)
		b.says("a", to, long[1:])
		for range 5 { // of which one carries nothing
			for n := range 5 {
				b.carry("b", 0, 300*n)
				b.carry("a", 1, 300*n)
			}
		}
		b.rest()
		b.hears("a", to, long)
		b.hears("b", from, long[1:])
	}
}

// P26.1: what was said before the session is ready waits for it.
func TestEarly(t *testing.T) {
	c := small()
	b := create(t, c)
	b.enter("a", "b")
	b.lease("a", "x")
	n, err := b.dial("b", "x", "a")
	if err != nil || b.Say("b", n, "x") != api.ErrNone {
		t.Fatal(n, err)
	}
	b.check()
	for b.model.end("b", n) == nil {
		b.run(1)
	}
	b.is("b", n, false)
	b.says("b", n, "early")
	b.says("a", 0, "bird")
	b.rest()
	b.hears("a", 0, "early")
	b.hears("b", n, "bird")
}

// P26.2: a device that is not the one for which the client has dialed hears nothing,
// and is not heard.
func TestOther(t *testing.T) {
	for _, device := range []string{"c", "b", "", "A", "a\x00"} {
		b := create(t, small())
		b.enter("a", "b", "c")
		b.lease("a", "x")
		n, _ := b.dial("b", "x", device)
		for b.model.end("a", 0) == nil || b.model.end("b", n) == nil {
			b.run(1)
		}
		b.says("b", n, "secret")
		b.says("a", 0, "trick")
		b.rest()
		b.is("b", n, false)
		b.is("a", 0, false)
		b.hears("b", n, "")
		b.hears("a", 0, "")
		if x, y := b.Say("b", n, "more"), b.Say("a", 0, "more"); x != api.ErrGone || y != api.ErrGone {
			t.Errorf("%v, %v", x, y)
		}
		b.rest()
		b.hears("a", 0, "")
		if len(b.Relay().Streams()) != 1 {
			t.Error("no stream")
		}
	}
}

// P26.2: when another device takes a name over, the streams end, and a client that
// dials for the first one does not speak with the other one.
func TestTakeover(t *testing.T) {
	b, from, to := talking(t, 64)
	b.enter("c")
	b.says("b", from, "one")
	b.rest()
	b.told("a")
	b.told("b")
	b.lease("c", "x")
	b.tells("a", peer.Event{Kind: peer.Closed, Channel: to})
	b.tells("b", peer.Event{Kind: peer.Closed, Channel: from})
	for _, err := range []error{b.Say("a", to, "x"), b.Say("b", from, "x"), b.End("b", from)} {
		if err != api.ErrNone {
			t.Errorf("%v", err)
		}
	}
	from, to = b.stream("b", "x", "a")
	b.is("b", from, false)
	from, to = b.stream("b", "x", "c")
	b.is("b", from, true)
	b.says("b", from, "two")
	b.rest()
	b.hears("c", to, "two")
}

// P26.1: an end of a channel, at each side; what was said before arrives, but nothing
// is heard of a session that has ended.
func TestEnd(t *testing.T) {
	for _, client := range []bool{true, false} {
		b, from, to := talking(t, 64)
		name, channel, other, there := "b", from, "a", to
		if !client {
			name, channel, other, there = "a", to, "b", from
		}
		b.told(name)
		b.told(other)
		b.says(other, there, "unheard")
		b.rest()
		b.end(name, channel)
		if err := b.End(name, channel); err != api.ErrState {
			t.Errorf("%v", err)
		}
		b.is(name, channel, true)
		b.says(name, channel, "lost")
		b.hears(name, channel, "unheard")
		b.rest()
		b.tellsBut(name, peer.Event{Kind: peer.Closed, Channel: channel})
		b.tellsBut(other, peer.Event{Kind: peer.Closed, Channel: there})
		b.is(name, channel, false)
		b.is(other, there, false)
		for _, p := range []place{{name, channel}, {other, there}} {
			s, err := b.Hear(p.name, p.channel, 9)
			for _, err := range []error{err, b.Say(p.name, p.channel, "x"), b.End(p.name, p.channel)} {
				if s != "" || err != api.ErrNone {
					t.Errorf("%q, %v", s, err)
				}
			}
		}
		if len(b.Relay().Streams()) != 0 || len(b.Relay().Leases()) != 1 {
			t.Error("a stream without channels")
		}
		from, to = b.stream("b", "x", "a") // the same channels again
		b.is("b", from, true)
		b.says("b", from, "again")
		b.rest()
		b.hears("a", to, "again")
	}
}

// P26.1: a cut ends the streams of a name, and its leases.
func TestCut(t *testing.T) {
	for _, name := range []string{"a", "b"} {
		b, from, to := talking(t, 64)
		b.told("a")
		b.told("b")
		b.says("b", from, "one")
		b.says("a", to, "two")
		b.carry("b", 0, 1000)
		b.carry("a", 0, 1000)
		b.cut(name)
		if err := b.Cut(name); err != api.ErrNone || b.Say(name, 0, "") != api.ErrNone || b.Ready(name, 0) || b.In(name) {
			t.Errorf("%v", err)
		}
		b.check()
		other, channel := "a", to
		if name == "a" {
			other, channel = "b", from
		}
		b.rest()
		b.tellsBut(other, peer.Event{Kind: peer.Closed, Channel: channel})
		if l := b.Relay().Leases(); len(b.Relay().Streams()) != 0 || len(l) != 1 && name == "b" || len(l) != 0 && name == "a" {
			t.Errorf("%+v", l)
		}
	}
}

// P26.1: a name that was cut and connected again is not told what the peer before it
// was told, and its inner sessions go on to be counted.
func TestAgain(t *testing.T) {
	b, _, _ := talking(t, 64)
	for range 3 {
		b.cut("b")
		b.join("b", "t")
		if l := b.told("b"); len(l) != 0 || b.Ready("b", 0) || b.In("b") {
			t.Errorf("%+v", l)
		}
		b.rest()
		b.tells("b", peer.Event{Kind: peer.In})
		from, to := b.stream("b", "x", "a")
		b.says("b", from, "hello")
		b.rest()
		b.hears("a", to, "hello")
	}
	b.cut("a")
	b.join("a", "t")
	b.rest()
	b.told("b")
	b.lease("b", "x") // they change places
	from, to := b.stream("a", "x", "b")
	b.is("a", from, true)
	b.says("a", from, "what")
	b.says("b", to, "where")
	b.carry("a", 0, 1000)
	b.carry("b", 0, 1000)
	if b.compare() < 80 {
		t.Error("nothing was sent")
	}
}

// P26.2: one name is both ends of a stream.
func TestAlone(t *testing.T) {
	b := create(t, small())
	b.enter("a")
	b.lease("a", "x")
	from, to := b.stream("a", "x", "a")
	if from == to {
		t.Fatal(from, to)
	}
	b.is("a", from, true)
	b.is("a", to, true)
	b.says("a", from, "question")
	b.says("a", to, "answer")
	b.rest()
	b.hears("a", from, "answer")
	b.hears("a", to, "question")
}

// P26.1: a connection has 8 channels.
func TestChannels(t *testing.T) {
	b := create(t, small())
	b.enter("a", "b")
	b.lease("a", "x")
	for n := range 8 {
		if got, err := b.dial("b", "x", "a"); got != n || err != nil {
			t.Fatal(got, err)
		}
	}
	if n, err := b.dial("b", "x", "a"); n != 0 || err != api.ErrFull {
		t.Errorf("%d, %v", n, err)
	}
	b.rest()
	for n := range 8 {
		b.is("b", n, true)
		b.says("b", n, strings.Repeat("x", n+1))
	}
	b.rest()
	for n := range 8 {
		b.hears("a", n, strings.Repeat("x", n+1))
	}
	b.dial("a", "x", "a") // for which there is no channel left
	b.told("a")
	b.told("b")
	for n := range 8 {
		b.end("b", n)
	}
	b.rest()
	for _, name := range []string{"a", "b"} {
		if l := b.told(name); len(l) != 8 {
			t.Errorf("%+v", l)
		}
	}
}

// P26.1: a channel that is asked for is accepted, even if the connection ends with the
// same bytes.
func TestAskedAndGone(t *testing.T) {
	c := small()
	c.Silent = 3
	b := create(t, c)
	b.enter("a", "b")
	b.lease("a", "x")
	b.tick()
	b.tick()
	b.dial("b", "x", "a")
	b.carry("b", 0, 1000)
	b.carry("a", 1, 0)
	b.tick()
	b.carry("a", 1, 1000)
	b.tells("a", peer.Event{Kind: peer.Asked, Word: "x", Port: 80}, peer.Event{Kind: peer.Gone})
	b.is("a", 0, false)
	b.says("a", 0, "nobody hears it")
	b.hears("a", 0, "")
	b.rest()
	b.tells("b", peer.Event{Kind: peer.Failed, Reason: 2})
	b.check()
}

// P26.1, P26.2: streams of several names at the same time.
func TestSeveral(t *testing.T) {
	b := create(t, small())
	b.enter("a", "b", "c", "d")
	b.lease("a", "x")
	b.lease("b", "y")
	type pair struct {
		client        string
		from          int
		device, alias string
		to            int
	}
	pairs := []pair{{client: "c", alias: "x", device: "a"}, {client: "c", alias: "y", device: "b"}, {client: "d", alias: "x", device: "a"}, {client: "a", alias: "y", device: "b"}}
	for i := range pairs {
		p := &pairs[i]
		p.from, p.to = b.stream(p.client, p.alias, p.device)
	}
	for _, p := range pairs {
		b.says(p.client, p.from, p.client+" to "+p.device)
		b.says(p.device, p.to, p.device+" to "+p.client)
	}
	b.rest()
	for _, p := range pairs {
		b.hears(p.device, p.to, p.client+" to "+p.device)
		b.hears(p.client, p.from, p.device+" to "+p.client)
	}
}

// P26.1: Run counts its rounds, of which there are at most 1000.
func TestRounds(t *testing.T) {
	b := create(t, small())
	if n, ended := b.World.Run(9); n != 1 || !ended {
		t.Errorf("%d, %v", n, ended)
	}
	b, from, _ := talking(t, 1)
	b.says("b", from, "much")
	for most, want := range map[int]int{1: 1, 2: 2, 3: 3, 0: 0, -5: 0} {
		if n, ended := b.World.Run(most); n != want || ended {
			t.Errorf("Run(%d): %d, %v", most, n, ended)
		}
	}
	b.says("b", from, strings.Repeat("much", 1200))
	for _, most := range []int{1000, 1001, math.MaxInt} {
		if n, ended := b.World.Run(most); n != 1000 || ended {
			t.Errorf("Run(%d): %d, %v", most, n, ended)
		}
	}
}
