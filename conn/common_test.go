package conn_test

import (
	"encoding/binary"
	"slices"
	"strings"
	"testing"

	"speakeasy/api"
	"speakeasy/auth"
	"speakeasy/conn"
	"speakeasy/edsign"
	"speakeasy/message"
	"speakeasy/mux"
	"speakeasy/session"
	"speakeasy/store"
)

// The seeds of the relay's host key, of keys of the tenants t and u, and of a key
// of nobody.
var (
	host  = [32]byte{1}
	seedT = [32]byte{2}
	seedU = [32]byte{3}
	seedX = [32]byte{4}
)

func tenants(t *testing.T) *store.Store {
	t.Helper()
	s := store.New(4, 4)
	for _, err := range []error{s.Add("t", edsign.Key(seedT)), s.Add("u", edsign.Key(seedU))} {
		if err != nil {
			t.Fatal(err)
		}
	}
	return s
}

func small(t *testing.T) conn.Config {
	t.Helper()
	return conn.Config{
		Session: session.Config{Software: "srv", Seed: "server's", Host: host},
		Store:   tenants(t),
		Tries:   3,
		Mux:     mux.Config{Channels: 3, Buffer: 40, Window: 50, Most: 20},
	}
}

func u32(n uint32) string { return string(binary.BigEndian.AppendUint32(nil, n)) }

func text(s string) string { return u32(uint32(len(s))) + s }

func say(kind int, u []uint32, s ...string) message.Msg {
	return message.Msg{Kind: kind, U: u, S: s}
}

func numbers(u ...uint32) []uint32 { return u }

func service(name string) message.Msg { return say(5, nil, name) }

func accept(name string) message.Msg { return say(6, nil, name) }

func success() message.Msg { return say(52, nil) }

func failure() message.Msg {
	return message.Msg{Kind: 51, N: [][]string{{"publickey"}}, B: []bool{false}}
}

func global(name, rest string, want bool) message.Msg {
	return message.Msg{Kind: 80, S: []string{name, rest}, B: []bool{want}}
}

// dialing returns the rest of a request for a stream.
func dialing(alias string, port uint32) string {
	return text(alias) + u32(port) + text("here") + u32(1)
}

// pair is a connection and its other end, the guest. The twin is a session like the
// connection's one: it receives the same bytes, and tests say what it sends besides.
// The connection must send exactly the same.
type pair struct {
	*testing.T
	c     *conn.Conn
	twin  *session.Session
	guest *session.Session
	fed   string // all bytes that the connection was given
}

func begin(t *testing.T, c conn.Config) *pair {
	t.Helper()
	x, err := conn.New(c)
	if x == nil || err != nil {
		t.Fatalf("New: %v, %v", x, err)
	}
	s := c.Session
	s.Client = false
	twin, err := session.New(s)
	if err != nil {
		t.Fatal(err)
	}
	guest, err := session.New(session.Config{Client: true, Software: "cli", Seed: "client's", Pin: edsign.Key(s.Host)})
	if err != nil {
		t.Fatal(err)
	}
	return &pair{T: t, c: x, twin: twin, guest: guest}
}

// connect returns a pair after the first exchange.
func connect(t *testing.T, c conn.Config) *pair {
	t.Helper()
	p := begin(t, c)
	for range 3 {
		p.sends()
		p.feeds(p.guest.Out())
	}
	if v := p.c.Session(); !v.Open || v.ID != p.guest.Vars().ID {
		t.Fatalf("%+v", v)
	}
	p.nobody()
	return p
}

// ask returns a pair after the service ssh-userauth was accepted.
func ask(t *testing.T, c conn.Config) *pair {
	t.Helper()
	p := connect(t, c)
	p.tell(service("ssh-userauth"))
	p.sends(accept("ssh-userauth"))
	return p
}

// enter returns a pair on which the tenant t is logged in.
func enter(t *testing.T, c conn.Config) *pair {
	t.Helper()
	p := ask(t, c)
	p.tell(p.request(seedT, "t"), conn.Event{Kind: conn.In, Word: "t"})
	p.somebody("t")
	p.sends(success())
	return p
}

// request returns a request to log in.
func (p *pair) request(seed [32]byte, user string) message.Msg {
	return auth.Request(p.guest.Vars().ID, seed, user)
}

func (p *pair) nobody() {
	p.Helper()
	if who, in := p.c.Who(); who != "" || in {
		p.Fatalf("%q is logged in, %v", who, in)
	}
}

func (p *pair) somebody(tenant string) {
	p.Helper()
	if who, in := p.c.Who(); who != tenant || !in {
		p.Fatalf("%q is logged in, %v, not %q", who, in, tenant)
	}
}

// packets returns messages as the guest sends them.
func (p *pair) packets(l ...message.Msg) string {
	p.Helper()
	s := ""
	for _, m := range l {
		if err := p.guest.Send(m.Bytes()); err != nil {
			p.Fatalf("%.200v: %v", m, err)
		}
		s += p.guest.Out()
	}
	return s
}

func (p *pair) feed(s string) ([]conn.Event, error) {
	p.fed += s
	p.twin.Feed(s)
	return p.c.Feed(s)
}

// feeds gives bytes to the connection, which cause these events.
func (p *pair) feeds(s string, want ...conn.Event) {
	p.Helper()
	if events, err := p.feed(s); err != nil || !slices.Equal(events, want) {
		p.Fatalf("%+v, %v, not %+v", events, err, want)
	}
}

// tell sends a message to the connection, which causes these events.
func (p *pair) tell(m message.Msg, want ...conn.Event) {
	p.Helper()
	p.feeds(p.packets(m), want...)
}

// sends checks that the connection sends these messages, and nothing else.
func (p *pair) sends(l ...message.Msg) {
	p.Helper()
	for _, m := range l {
		if err := p.twin.Send(m.Bytes()); err != nil {
			p.Fatalf("%.200v: %v", m, err)
		}
	}
	out := p.c.Out()
	if want := p.twin.Out(); out != want {
		got, _ := p.guest.Feed(out)
		p.Fatalf("%d bytes were sent, not %d; they were %.200q, not %.200v", len(out), len(want), got, l)
	}
	if _, err := p.guest.Feed(out); err != nil && !p.twin.Vars().Gone {
		p.Fatalf("the guest: %v", err)
	}
	if got, want := p.c.Session(), p.twin.Vars(); got != want || p.c.Gone() != want.Gone {
		p.Fatalf("%+v, %v, not %+v", got, p.c.Gone(), want)
	}
}

// isFault reports whether an error is the given one, wrapped by the connection and
// by nothing else outside.
func isFault(err, want error, inner ...string) bool {
	for _, where := range append([]string{"conn"}, inner...) {
		f, ok := err.(*api.Fault)
		if !ok || f.Where != where {
			return false
		}
		err = f.Err
	}
	return err == want
}

// breaks sends messages with an error: they cause the events and then Gone, and
// nothing is sent but a disconnect, unless the session could not.
func (p *pair) breaks(l []message.Msg, wrong error, want ...conn.Event) {
	p.Helper()
	p.broken(p.packets(l...), wrong, nil, want...)
}

// broken gives the connection bytes with an error, which inner wraps.
func (p *pair) broken(s string, wrong error, inner []string, want ...conn.Event) {
	p.Helper()
	events, err := p.feed(s)
	if want = append(want, conn.Event{Kind: conn.Gone}); !isFault(err, wrong, inner...) || !slices.Equal(events, want) {
		p.Fatalf("%+v, %v, not %+v, %v", events, err, want, wrong)
	}
	reason := uint32(2)
	if wrong == api.ErrAuth {
		reason = 14
	}
	p.twin.Close(reason, "")
	p.sends()
	p.over()
}

// over checks that the connection is gone for good, and says nothing more.
func (p *pair) over() {
	p.Helper()
	who, in := p.c.Who()
	for _, s := range []string{"", "SSH-2.0-x\r\n", "\x00\x00\x00\x0c", strings.Repeat("x", 300), p.guest.Out()} {
		if events, err := p.c.Feed(s); len(events) != 0 || !isFault(err, api.ErrGone) {
			p.Fatalf("Feed afterwards: %+v, %v", events, err)
		}
		if n, err := p.c.Open("web", 1, 1); n != 0 || err != api.ErrState {
			p.Fatalf("Open afterwards: %d, %v", n, err)
		}
		p.c.Answer(true, "x")
		p.c.Answer(false, "")
		p.c.End(11)
		if out := p.c.Out(); out != "" || !p.c.Gone() || p.c.Session() != p.twin.Vars() {
			p.Fatalf("%q was sent afterwards; %v, %+v", out, p.c.Gone(), p.c.Session())
		}
	}
	if w, i := p.c.Who(); w != who || i != in {
		p.Fatalf("%q, %v is logged in afterwards, not %q, %v", w, i, who, in)
	}
}
