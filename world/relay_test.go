package world_test

import (
	"encoding/binary"
	"math"
	"slices"
	"strings"
	"testing"

	"speakeasy/api"
	"speakeasy/auth"
	"speakeasy/edsign"
	"speakeasy/message"
	"speakeasy/relay"
	"speakeasy/session"
	"speakeasy/world"
)

// guest is connected to the relay of a world and to one that is as the document says
// it. Both must send the same bytes.
type guest struct {
	*testing.T
	*session.Session
	worlds, said *relay.Relay
	number       int
}

func visit(t *testing.T, worlds, said *relay.Relay, seed string, host [32]byte) *guest {
	t.Helper()
	s, err := session.New(session.Config{Client: true, Software: "guest", Seed: seed, Pin: edsign.Key(host)})
	if err != nil {
		t.Fatal(err)
	}
	n, err := worlds.Connect()
	if also, wrong := said.Connect(); n != also || err != nil || wrong != nil {
		t.Fatalf("%d, %v, not %d, %v", n, err, also, wrong)
	}
	g := &guest{T: t, Session: s, worlds: worlds, said: said, number: n}
	for range 3 {
		g.tell()
	}
	if !g.Vars().Open {
		t.Fatal("not open")
	}
	g.tell(message.Msg{Kind: message.ServiceRequest, S: []string{"ssh-userauth"}})
	return g
}

// tell sends messages, unless the session is gone, and returns the kinds of those that
// the relays send.
func (g *guest) tell(l ...message.Msg) []int {
	g.Helper()
	for _, m := range l {
		if g.Vars().Gone {
			break
		}
		if err := g.Send(m.Bytes()); err != nil {
			g.Fatalf("%.200v: %v", m, err)
		}
	}
	out := g.Session.Out()
	err, wrong := g.worlds.Feed(g.number, out), g.said.Feed(g.number, out)
	if api.Code(err) != api.Code(wrong) {
		g.Fatalf("%v, not %v", err, wrong)
	}
	return g.hears()
}

// hears returns the kinds of the messages that the relays send.
func (g *guest) hears() []int {
	g.Helper()
	got, want := g.worlds.Out(g.number), g.said.Out(g.number)
	if got != want {
		g.Fatalf("connection %d: %d bytes were sent, which are not the right %d", g.number, len(got), len(want))
	}
	payloads, _ := g.Session.Feed(got)
	var kinds []int
	for _, payload := range payloads {
		kinds = append(kinds, int(payload[0]))
	}
	return kinds
}

// enter logs the guest in with a key, or tries to.
func (g *guest) enter(seed [32]byte) []int {
	g.Helper()
	return g.tell(auth.Request(g.Vars().ID, seed, "t"))
}

func text(s string) string { return string(binary.BigEndian.AppendUint32(nil, uint32(len(s)))) + s }

func forward(alias string) message.Msg {
	return message.Msg{Kind: message.GlobalRequest, S: []string{"tcpip-forward", text(alias) + "\x00\x00\x00\x50"}, B: []bool{true}}
}

func dial(n uint32, alias string) message.Msg {
	return message.Msg{Kind: message.Open, U: []uint32{n, 99, 99}, S: []string{"direct-tcpip", text(alias) + "\x00\x00\x00\x50" + text("") + "\x00\x00\x00\x00"}}
}

// meet lets guests do what meets the limits of the relays.
func meet(t *testing.T, c world.Config) {
	t.Helper()
	w, store := world.New(c), newModel(c).store
	said := relay.New(relayConfig(c), store)
	if g, err := w.Grant("t", "a"), store.Add("t", key(c.Seed, "a")); g != nil || err != nil {
		t.Fatal(g, err)
	}
	own := spread(c.Seed, "key a")
	device := visit(t, w.Relay(), said, "device", spread(c.Seed, "host"))
	if kinds := device.enter(own); !slices.Equal(kinds, []int{message.AuthSuccess}) {
		t.Fatalf("%v", kinds)
	}
	for n := range 70 {
		device.tell(forward(strings.Repeat("x", 1+n%60) + "abc"[n/60:n/60+1]))
	}
	if len(said.Conns()) < min(max(c.Conns, 1), 64) {
		thief := visit(t, w.Relay(), said, "thief", spread(c.Seed, "host"))
		for range 4 {
			thief.enter(spread(c.Seed, "key b"))
		}
		if v := thief.Vars(); !v.Gone {
			t.Fatalf("%+v", v)
		}
		client := visit(t, w.Relay(), said, "client", spread(c.Seed, "host"))
		client.enter(own)
		talk(client, device)
	}
	for n := range 80 {
		if n == 2 {
			device.tell(message.Msg{Kind: message.GlobalRequest, S: []string{"keepalive@openssh.com", ""}, B: []bool{true}})
		}
		if a, b := w.Relay(), said; !slices.Equal(a.Conns(), b.Conns()) || !slices.Equal(a.Leases(), b.Leases()) || !slices.Equal(a.Streams(), b.Streams()) || a.Clock() != b.Clock() {
			t.Fatalf("%v, %v, %v, %v, not %v, %v, %v, %v", a.Conns(), a.Leases(), a.Streams(), a.Clock(), b.Conns(), b.Leases(), b.Streams(), b.Clock())
		}
		w.Tick()
		said.Tick()
	}
}

// talk dials the device, which accepts some of the channels but permits no bytes. So
// the relay takes of the client's bytes what it can hold.
func talk(client, device *guest) {
	client.Helper()
	for n := range uint32(9) {
		client.tell(dial(n, "xa"))
	}
	device.hears()
	for n := range uint32(2) {
		device.tell(message.Msg{Kind: message.Confirm, U: []uint32{n, n, 0, 99}, S: []string{""}})
	}
	client.hears()
	for range 40 {
		client.tell(message.Msg{Kind: message.Data, U: []uint32{0}, S: []string{"x"}})
		device.hears()
	}
	client.tell(message.Msg{Kind: message.Data, U: []uint32{1}, S: []string{strings.Repeat("x", 16)}})
	client.tell(message.Msg{Kind: message.Data, U: []uint32{1}, S: []string{strings.Repeat("x", 17)}})
	device.hears()
	client.hears()
}

// P26.1: the relay has the limits of the configuration, and the others that the
// document says.
func TestRelay(t *testing.T) {
	for _, c := range []world.Config{
		{Seed: "s", Conns: 9, Streams: 99, Silent: 50, Names: 9, Life: 40, Window: 50},
		{Seed: "other", Conns: 3, Streams: 3, Silent: 7, Names: 64, Life: 5, Window: 15},
		{Conns: 4, Streams: 9, Silent: 70, Names: 63, Life: 70, Window: 16},
		{Seed: "s", Conns: 9, Streams: 99, Silent: 50, Names: 9, Life: 40, Window: 1 << 24},
		{Seed: "s", Conns: 9, Streams: 99, Silent: 50, Names: 9, Life: 40, Window: 1<<24 + 1},
		{Seed: "s", Conns: 9, Streams: 99, Silent: 50, Names: 9, Life: 40, Window: 1<<32 + 5},
		{Conns: math.MaxInt, Streams: math.MaxInt, Silent: math.MaxInt, Names: math.MaxInt, Life: math.MaxInt, Window: math.MaxInt},
		{Conns: math.MinInt, Streams: math.MinInt, Silent: math.MinInt, Names: math.MinInt, Life: math.MinInt, Window: math.MinInt},
		{Seed: "s", Conns: 9, Streams: 2, Silent: 50, Names: 3, Life: 40, Window: 0},
		{Seed: "s", Conns: 9, Streams: 2, Silent: 50, Names: 3, Life: 40, Window: 1},
		{},
	} {
		meet(t, c)
	}
}

// P26.1: a world has so many connections as its relay permits.
func TestConns(t *testing.T) {
	for conns, want := range map[int]int{math.MinInt: 1, 0: 1, 1: 1, 7: 7, 64: 64, 65: 64, math.MaxInt: 64} {
		w := world.New(world.Config{Conns: conns})
		for n := range want {
			if err := w.Join("a"+string([]byte{byte(n)}), "t"); err != nil {
				t.Fatalf("%d of %d: %v", n, conns, err)
			}
		}
		if err := w.Join("z", "t"); err != api.ErrFull || len(w.Names()) != want || len(w.Relay().Conns()) != want {
			t.Errorf("%d: %v", conns, err)
		}
	}
}
