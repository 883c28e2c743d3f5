package inner_test

import (
	"math/rand"
	"strings"
	"testing"

	"speakeasy/api"
	"speakeasy/edsign"
	"speakeasy/inner"
	"speakeasy/message"
	"speakeasy/session"
)

// The seeds of the device's host key, and of another one.
var (
	host  = [32]byte{1}
	thief = [32]byte{2}
)

func config(client bool) inner.Config {
	if client {
		return inner.Config{Client: true, Seed: "client's", Pin: edsign.Key(host)}
	}
	return inner.Config{Seed: "device's", Host: host}
}

// like returns the configuration of a session as an end must have it.
func like(c inner.Config) session.Config {
	return session.Config{Client: c.Client, Software: "inner", Seed: c.Seed, Host: c.Host, Pin: c.Pin}
}

func create(t *testing.T, c session.Config) *session.Session {
	t.Helper()
	s, err := session.New(c)
	if err != nil {
		t.Fatal(err)
	}
	return s
}

func data(n uint32, s string) message.Msg {
	return message.Msg{Kind: 94, U: []uint32{n}, S: []string{s}}
}

// pair is an end of an inner session, and a session as the other end. The twin is a
// session like that of the end: it receives the same bytes, and tests say what it
// sends besides. The end must send exactly the same.
type pair struct {
	*testing.T
	*inner.Inner
	twin  *session.Session
	other *session.Session
	got   []string // all payloads that the other end was given
}

func begin(t *testing.T, client bool) *pair {
	t.Helper()
	p := &pair{T: t, Inner: inner.New(config(client)), twin: create(t, like(config(client))), other: create(t, like(config(!client)))}
	if p.Inner == nil {
		t.Fatal("no end")
	}
	p.is(false, false)
	return p
}

// connect returns a pair after the first exchange.
func connect(t *testing.T, client bool) *pair {
	t.Helper()
	p := begin(t, client)
	p.exchange()
	if v := p.other.Vars(); !v.Open || v.ID != p.ID() || v.ID == [32]byte{} {
		t.Fatalf("%+v", v)
	}
	p.is(true, false)
	return p
}

// exchange transports what both ends have to send for an exchange.
func (p *pair) exchange() {
	p.Helper()
	for range 3 {
		p.sends()
		p.feeds(p.other.Out())
	}
	p.sends()
}

// is checks whether the end is ready, and whether it is gone.
func (p *pair) is(ready, gone bool) {
	p.Helper()
	if p.Ready() != ready || p.Gone() != gone {
		p.Fatalf("ready: %v, gone: %v, not %v, %v", p.Ready(), p.Gone(), ready, gone)
	}
}

// packets returns messages as the other end sends them.
func (p *pair) packets(l ...message.Msg) string {
	p.Helper()
	s := ""
	for _, m := range l {
		if err := p.other.Send(m.Bytes()); err != nil {
			p.Fatalf("%.200v: %v", m, err)
		}
		s += p.other.Out()
	}
	return s
}

func (p *pair) feed(s string) error {
	p.twin.Feed(s)
	return p.Feed(s)
}

// feeds gives bytes without an error to the end.
func (p *pair) feeds(s string) {
	p.Helper()
	if err := p.feed(s); err != nil {
		p.Fatal(err)
	}
}

// sends checks that the end sends these messages, and nothing else.
func (p *pair) sends(l ...message.Msg) {
	p.Helper()
	for _, m := range l {
		if err := p.twin.Send(m.Bytes()); err != nil {
			p.Fatalf("%.200v: %v", m, err)
		}
	}
	out := p.Out()
	if want := p.twin.Out(); out != want {
		got, _ := p.other.Feed(out)
		p.Fatalf("%d bytes were sent, not %d; they were %.200q, not %.200v", len(out), len(want), got, l)
	}
	got, err := p.other.Feed(out)
	if err != nil && !p.twin.Vars().Gone {
		p.Fatalf("the other end: %v", err)
	}
	p.got = append(p.got, got...)
	if v := p.twin.Vars(); p.ID() != v.ID || p.Gone() != v.Gone {
		p.Fatalf("%x, %v, not %+v", p.ID(), p.Gone(), v)
	}
}

// has checks which bytes have been received and not been read.
func (p *pair) has(want string) {
	p.Helper()
	if n := p.Waits(); n != len(want) {
		p.Fatalf("%d bytes wait, not %d", n, len(want))
	}
	if s := p.Read(len(want)); s != want || p.Waits() != 0 {
		p.Fatalf("%.200q was received, not %.200q", s, want)
	}
}

// isFault reports whether an error is the given one, wrapped by the end and, inside
// of that, by nothing but within.
func isFault(err, want error, within ...string) bool {
	for _, where := range append([]string{"inner"}, within...) {
		f, ok := err.(*api.Fault)
		if !ok || f.Where != where {
			return false
		}
		err = f.Err
	}
	return err == want
}

// broken gives the end bytes with an error, which within wraps. Of these bytes, want
// has been received.
func (p *pair) broken(s string, wrong error, want string, within ...string) {
	p.Helper()
	if err := p.feed(s); !isFault(err, wrong, within...) {
		p.Fatalf("%v, not %v", err, wrong)
	}
	p.twin.Close(2, "") // if the session has not ended itself
	p.sends()
	p.over()
	p.has(want)
}

// over checks that the end is gone for good, and says nothing more.
func (p *pair) over() {
	p.Helper()
	id, waits := p.ID(), p.Waits()
	for _, s := range []string{"", "SSH-2.0-x\r\n", "\x00\x00\x00\x0c", strings.Repeat("x", 300), p.other.Out()} {
		if err := p.Feed(s); !isFault(err, api.ErrGone) {
			p.Fatalf("Feed afterwards: %v", err)
		}
		if a, b := p.Write(s), p.Rekey(); a != api.ErrGone || b != api.ErrGone {
			p.Fatalf("Write and Rekey afterwards: %v, %v", a, b)
		}
		p.End()
		if out := p.Out(); out != "" || p.ID() != id || id != p.twin.Vars().ID || p.Waits() != waits {
			p.Fatalf("%q was sent afterwards, %d bytes wait, id %x", out, p.Waits(), p.ID())
		}
		p.is(false, true)
	}
}

// letters returns n bytes that are different in each part of a string.
func letters(source *rand.Rand, n int) string {
	b := make([]byte, n)
	source.Read(b)
	return string(b)
}
