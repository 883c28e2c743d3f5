package peer_test

import (
	"encoding/binary"
	"slices"
	"strings"
	"testing"

	"speakeasy/api"
	"speakeasy/auth"
	"speakeasy/edsign"
	"speakeasy/message"
	"speakeasy/mux"
	"speakeasy/peer"
	"speakeasy/session"
)

// The seeds of the relay's host key, and of the peer's own key.
var (
	host = [32]byte{1}
	own  = [32]byte{2}
)

func small() peer.Config {
	return peer.Config{
		Seed: "seed", Pin: edsign.Key(host), Key: own, User: "t",
		Mux: mux.Config{Channels: 3, Buffer: 40, Window: 50, Most: 20},
	}
}

func u32(n uint32) string { return string(binary.BigEndian.AppendUint32(nil, n)) }

func text(s string) string { return u32(uint32(len(s))) + s }

func say(kind int, u []uint32, s ...string) message.Msg {
	return message.Msg{Kind: kind, U: u, S: s}
}

func numbers(u ...uint32) []uint32 { return u }

// The messages of a login, in their order.
func service() message.Msg { return say(5, nil, "ssh-userauth") }

func accept() message.Msg { return say(6, nil, "ssh-userauth") }

func success() message.Msg { return say(52, nil) }

func failure() message.Msg {
	return message.Msg{Kind: 51, N: [][]string{{"publickey"}}, B: []bool{false}}
}

func global(name, rest string, want bool) message.Msg {
	return message.Msg{Kind: 80, S: []string{name, rest}, B: []bool{want}}
}

// yes and no are the answers to global requests.
func yes(rest string) message.Msg { return say(81, nil, rest) }

func no() message.Msg { return say(82, nil) }

// dialed is what the relay says with a channel to a device.
func dialed(alias string, port uint32) string {
	return text(alias) + u32(port) + text("client") + u32(7)
}

// asks is the relay's request for a channel of which it has this number.
func asks(number uint32, alias string) message.Msg {
	return say(90, numbers(number, 100, 30), "forwarded-tcpip", dialed(alias, 80))
}

// dials is the request of a peer as in small for its channel n.
func dials(n uint32, alias string, port uint32) message.Msg {
	return say(90, numbers(n, 50, 20), "direct-tcpip", text(alias)+u32(port)+text("peer")+u32(0))
}

// pair is a peer and its other end, the relay's session. The twin is a session like
// the peer's one: it receives the same bytes, and tests say what it sends besides.
// The peer must send exactly the same.
type pair struct {
	*testing.T
	*peer.Peer
	twin  *session.Session
	relay *session.Session
	fed   string   // all bytes that the peer was given
	got   []string // all payloads that the relay was given
}

func begin(t *testing.T, c peer.Config) *pair {
	t.Helper()
	p := peer.New(c)
	if p == nil {
		t.Fatal("no peer")
	}
	twin, err := session.New(session.Config{Client: true, Software: "peer", Seed: c.Seed, Pin: c.Pin})
	if err != nil {
		t.Fatal(err)
	}
	if err := twin.Send(service().Bytes()); err != nil {
		t.Fatal(err)
	}
	relay, err := session.New(session.Config{Software: "srv", Seed: "relay's", Host: host})
	if err != nil {
		t.Fatal(err)
	}
	return &pair{T: t, Peer: p, twin: twin, relay: relay}
}

// connect returns a pair after the first exchange, when the service was requested.
func connect(t *testing.T, c peer.Config) *pair {
	t.Helper()
	p := begin(t, c)
	for range 2 {
		p.sends()
		p.feeds(p.relay.Out())
	}
	p.sends()
	if v := p.relay.Vars(); !v.Open || v.ID != p.ID() {
		t.Fatalf("%+v", v)
	}
	return p
}

// ask returns a pair after the peer has requested to log in.
func ask(t *testing.T, c peer.Config) *pair {
	t.Helper()
	p := connect(t, c)
	p.tell(accept())
	p.sends(auth.Request(p.relay.Vars().ID, c.Key, c.User))
	return p
}

// enter returns a pair whose peer is logged in.
func enter(t *testing.T, c peer.Config) *pair {
	t.Helper()
	p := ask(t, c)
	p.is(false, false)
	p.tell(success(), peer.Event{Kind: peer.In})
	p.is(true, false)
	p.sends()
	return p
}

// stages are the ways to create a pair, the last of them with a login.
func stages() []func(*testing.T, peer.Config) *pair {
	return []func(*testing.T, peer.Config) *pair{begin, connect, ask, enter}
}

// is checks whether the peer is logged in, and whether it is gone.
func (p *pair) is(in, gone bool) {
	p.Helper()
	if p.In() != in || p.Gone() != gone {
		p.Fatalf("logged in: %v, gone: %v, not %v, %v", p.In(), p.Gone(), in, gone)
	}
}

// packets returns messages as the relay sends them.
func (p *pair) packets(l ...message.Msg) string {
	p.Helper()
	s := ""
	for _, m := range l {
		if err := p.relay.Send(m.Bytes()); err != nil {
			p.Fatalf("%.200v: %v", m, err)
		}
		s += p.relay.Out()
	}
	return s
}

func (p *pair) feed(s string) ([]peer.Event, error) {
	p.fed += s
	p.twin.Feed(s)
	return p.Feed(s)
}

// feeds gives bytes to the peer, which cause these events.
func (p *pair) feeds(s string, want ...peer.Event) {
	p.Helper()
	if events, err := p.feed(s); err != nil || !slices.Equal(events, want) {
		p.Fatalf("%+v, %v, not %+v", events, err, want)
	}
}

// tell sends a message to the peer, which causes these events.
func (p *pair) tell(m message.Msg, want ...peer.Event) {
	p.Helper()
	p.feeds(p.packets(m), want...)
}

// twinSends makes the twin send messages.
func (p *pair) twinSends(l ...message.Msg) {
	p.Helper()
	for _, m := range l {
		if err := p.twin.Send(m.Bytes()); err != nil {
			p.Fatalf("%.200v: %v", m, err)
		}
	}
}

// sends checks that the peer sends these messages, and nothing else.
func (p *pair) sends(l ...message.Msg) {
	p.Helper()
	p.twinSends(l...)
	out := p.Out()
	if want := p.twin.Out(); out != want {
		got, _ := p.relay.Feed(out)
		p.Fatalf("%d bytes were sent, not %d; they were %.200q, not %.200v", len(out), len(want), got, l)
	}
	got, err := p.relay.Feed(out)
	if err != nil && !p.twin.Vars().Gone {
		p.Fatalf("the relay: %v", err)
	}
	p.got = append(p.got, got...)
	if v := p.twin.Vars(); p.ID() != v.ID || p.Gone() != v.Gone {
		p.Fatalf("%x, %v, not %+v", p.ID(), p.Gone(), v)
	}
}

// isFault reports whether an error is the given one, wrapped by the peer and, inside
// of that, by nothing but inner.
func isFault(err, want error, inner ...string) bool {
	for _, where := range append([]string{"peer"}, inner...) {
		f, ok := err.(*api.Fault)
		if !ok || f.Where != where {
			return false
		}
		err = f.Err
	}
	return err == want
}

// breaks sends messages with an error: they cause the events and then Gone, and
// nothing is sent but a disconnect.
func (p *pair) breaks(l []message.Msg, wrong error, want ...peer.Event) {
	p.Helper()
	p.broken(p.packets(l...), wrong, nil, want...)
}

// broken gives the peer bytes with an error, which inner wraps.
func (p *pair) broken(s string, wrong error, inner []string, want ...peer.Event) {
	p.Helper()
	events, err := p.feed(s)
	if want = append(want, peer.Event{Kind: peer.Gone}); !isFault(err, wrong, inner...) || !slices.Equal(events, want) {
		p.Fatalf("%+v, %v, not %+v, %v", events, err, want, wrong)
	}
	p.twin.Close(2, "") // if the session has not ended itself
	p.sends()
	p.over()
}

// over checks that the peer is gone for good, and says nothing more.
func (p *pair) over() {
	p.Helper()
	id := p.ID()
	for _, s := range []string{"", "SSH-2.0-x\r\n", "\x00\x00\x00\x0c", strings.Repeat("x", 300), p.relay.Out()} {
		if events, err := p.Feed(s); len(events) != 0 || !isFault(err, api.ErrGone) {
			p.Fatalf("Feed afterwards: %+v, %v", events, err)
		}
		p.refuses(api.ErrState)
		if err := p.Rekey(); err != api.ErrGone {
			p.Fatalf("Rekey afterwards: %v", err)
		}
		p.End(11)
		if out := p.Out(); out != "" || p.ID() != id || id != p.twin.Vars().ID {
			p.Fatalf("%q was sent afterwards, id %x", out, p.ID())
		}
		p.is(false, true)
	}
}

// refuses checks that the peer makes no requests.
func (p *pair) refuses(wrong error) {
	p.Helper()
	for _, alias := range []string{"web", "", strings.Repeat("x", 2000)} {
		for _, err := range []error{p.Forward(alias, 80), p.Cancel(alias, 80), p.Beat()} {
			if err != wrong {
				p.Fatalf("a request: %v", err)
			}
		}
		if n, err := p.Dial(alias, 80); n != 0 || err != wrong {
			p.Fatalf("Dial: %d, %v", n, err)
		}
	}
	if l := p.Channels(); len(l) != 0 && !p.Gone() {
		p.Fatalf("channels %v", l)
	}
}
