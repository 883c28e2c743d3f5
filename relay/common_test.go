package relay_test

import (
	"encoding/binary"
	"fmt"
	"slices"
	"testing"

	"speakeasy/api"
	"speakeasy/auth"
	"speakeasy/edsign"
	"speakeasy/lease"
	"speakeasy/message"
	"speakeasy/mux"
	"speakeasy/relay"
	"speakeasy/session"
	"speakeasy/store"
)

// The seeds of the relay's host key, and of keys of the tenants t and u.
var (
	host  = [32]byte{1}
	seedT = [32]byte{2}
	seedU = [32]byte{3}
)

func tenants(t *testing.T) *store.Store {
	t.Helper()
	s := store.New(4, 4)
	for _, err := range []error{s.Add("t", edsign.Key(seedT)), s.Add("u", edsign.Key(seedU))} {
		if err != nil {
			t.Fatal(err)
		}
	}
	return s
}

func small() relay.Config {
	return relay.Config{
		Seed: "seed", Host: host, Conns: 5, Tries: 2, Streams: 4, Silent: 9,
		Lease: lease.Config{Names: 3, Total: 5, Life: 6},
		Mux:   mux.Config{Channels: 4, Buffer: 30, Window: 40, Most: 20},
	}
}

func u32(n uint32) string { return string(binary.BigEndian.AppendUint32(nil, n)) }

func text(s string) string { return u32(uint32(len(s))) + s }

func say(kind int, u []uint32, s ...string) message.Msg {
	return message.Msg{Kind: kind, U: u, S: s}
}

func numbers(u ...uint32) []uint32 { return u }

func global(name, rest string, want bool) message.Msg {
	return message.Msg{Kind: 80, S: []string{name, rest}, B: []bool{want}}
}

func forward(alias string, port uint32, want bool) message.Msg {
	return global("tcpip-forward", text(alias)+u32(port), want)
}

func cancel(alias string) message.Msg {
	return global("cancel-tcpip-forward", text(alias)+u32(80), true)
}

func beat(want bool) message.Msg { return global("keepalive@openssh.com", "", want) }

// yes and no are the answers to global requests.
func yes(rest string) message.Msg { return say(81, nil, rest) }

func no() message.Msg { return say(82, nil) }

// dial asks for a stream, with the client's number and window of the channel.
func dial(number, window uint32, alias string) message.Msg {
	return say(90, numbers(number, window, 1000), "direct-tcpip", text(alias)+u32(80)+text("here")+u32(1))
}

// asks is what a device is told then, by a relay as in small.
func asks(number uint32, alias string, client uint32) message.Msg {
	return say(90, numbers(number, 40, 20), "forwarded-tcpip", text(alias)+u32(80)+text("client")+u32(client))
}

// confirm accepts a channel; the sender's number of it is own.
func confirm(other, own, window uint32) message.Msg {
	return say(91, numbers(other, own, window, 1000), "")
}

// confirmed is what the relay sends then.
func confirmed(other, own uint32) message.Msg { return say(91, numbers(other, own, 40, 20), "") }

func rejected(number, reason uint32) message.Msg { return say(92, numbers(number, reason), "", "") }

func adjust(number, n uint32) message.Msg { return say(93, numbers(number, n)) }

func data(number uint32, s string) message.Msg { return say(94, numbers(number), s) }

func eof(number uint32) message.Msg { return say(96, numbers(number)) }

func closing(number uint32) message.Msg { return say(97, numbers(number)) }

// guest is the other end of a connection of the relay. The twin is a session like
// the relay's one: it receives the same bytes, and tests say what it sends besides.
// The relay must send exactly the same.
type guest struct {
	*session.Session
	twin *session.Session
}

// site is a relay with its guests.
type site struct {
	*testing.T
	*relay.Relay
	guests map[int]*guest
	next   uint32 // a number of a channel at a guest
}

func open(t *testing.T, c relay.Config) *site {
	t.Helper()
	return &site{T: t, Relay: relay.New(c, tenants(t)), guests: map[int]*guest{}, next: 1000}
}

// connect returns the number of a new connection, after its first exchange.
func (s *site) connect() int {
	s.Helper()
	n := s.begin()
	for range 3 {
		s.sends(n)
		if err := s.feed(n, s.guests[n].Out()); err != nil {
			s.Fatal(err)
		}
	}
	if !s.guests[n].Vars().Open {
		s.Fatalf("connection %d is not open", n)
	}
	return n
}

// begin returns the number of a new connection.
func (s *site) begin() int {
	s.Helper()
	n, err := s.Connect()
	if err != nil || s.guests[n] != nil {
		s.Fatalf("Connect: %d, %v", n, err)
	}
	client, err := session.New(session.Config{Client: true, Software: "cli", Seed: fmt.Sprint("guest", n), Pin: edsign.Key(host)})
	if err != nil {
		s.Fatal(err)
	}
	twin, err := session.New(session.Config{Software: "relay", Seed: fmt.Sprint("seed-", n), Host: host})
	if err != nil {
		s.Fatal(err)
	}
	s.guests[n] = &guest{client, twin}
	return n
}

// join returns the number of a new connection on which a tenant is logged in.
func (s *site) join(seed [32]byte, user string) int {
	s.Helper()
	n := s.connect()
	s.tell(n, say(5, nil, "ssh-userauth"), auth.Request(s.guests[n].Vars().ID, seed, user))
	s.sends(n, say(6, nil, "ssh-userauth"), say(52, nil))
	if who, in := s.Who(n); who != user || !in {
		s.Fatalf("%q, %v", who, in)
	}
	return n
}

func (s *site) feed(n int, t string) error {
	s.guests[n].twin.Feed(t)
	return s.Feed(n, t)
}

// packets returns messages as a guest sends them.
func (s *site) packets(n int, l ...message.Msg) string {
	s.Helper()
	for _, m := range l {
		if err := s.guests[n].Send(m.Bytes()); err != nil {
			s.Fatalf("%.200v: %v", m, err)
		}
	}
	return s.guests[n].Out()
}

// tell sends messages to the relay, all at once.
func (s *site) tell(n int, l ...message.Msg) {
	s.Helper()
	if err := s.feed(n, s.packets(n, l...)); err != nil {
		s.Fatalf("%.200v: %v", l, err)
	}
}

// breaks sends messages to the relay with which it ends the connection.
func (s *site) breaks(n int, wrong error, l ...message.Msg) {
	s.Helper()
	if err := s.feed(n, s.packets(n, l...)); api.Where(err) != "conn" || api.Code(err) != api.Code(wrong) {
		s.Fatalf("%.200v: %v", l, err)
	}
	s.guests[n].twin.Close(2, "")
	s.removed(n)
}

// removed checks that there is no such connection.
func (s *site) removed(n int) {
	s.Helper()
	who, in := s.Who(n)
	if slices.Contains(s.Conns(), n) || who != "" || in || s.Feed(n, "x") != api.ErrNone || s.Reset(n) != api.ErrNone {
		s.Fatalf("%d is one of %v, with %q, %v", n, s.Conns(), who, in)
	}
}

// sends checks that the relay sends these messages on a connection, and nothing else.
func (s *site) sends(n int, l ...message.Msg) {
	s.Helper()
	g := s.guests[n]
	for _, m := range l {
		if err := g.twin.Send(m.Bytes()); err != nil {
			s.Fatalf("%.200v: %v", m, err)
		}
	}
	out := s.Out(n)
	payloads, err := g.Session.Feed(out)
	if want := g.twin.Out(); out != want || err != nil && !g.twin.Vars().Gone {
		s.Fatalf("%d bytes were sent on %d, not %d; they were %.300q, %v, not %.300v", len(out), n, len(want), payloads, err, l)
	}
	if out := s.Out(n); out != "" {
		s.Fatalf("%d bytes were sent on %d afterwards", len(out), n)
	}
}

// quiet checks that the relay has nothing to send on any connection.
func (s *site) quiet() {
	s.Helper()
	for n := range len(s.guests) {
		s.sends(n)
	}
}

// lease lets a device lease a name.
func (s *site) lease(n int, alias string) {
	s.Helper()
	s.tell(n, forward(alias, 80, true))
	s.sends(n, yes(""))
}

// leased checks the leases of the relay.
func (s *site) leased(want ...lease.Lease) {
	s.Helper()
	if l := s.Leases(); !slices.Equal(l, want) {
		s.Fatalf("%+v, not %+v", l, want)
	}
}

// streams checks the streams of the relay.
func (s *site) streams(want ...relay.Stream) {
	s.Helper()
	if l := s.Streams(); !slices.Equal(l, want) {
		s.Fatalf("%+v, not %+v", l, want)
	}
}

// line is a stream, and the numbers that its channels have at the guests.
type line struct {
	relay.Stream
	client, device uint32
}

// from and to are the relay's numbers.
func (l line) from() uint32 { return uint32(l.From) }

func (l line) to() uint32 { return uint32(l.To) }

// wait lets a client dial a name.
func (s *site) wait(client int, alias string, window uint32) line {
	s.Helper()
	s.next++
	before := len(s.Streams())
	s.tell(client, dial(s.next, window, alias))
	l := s.Streams()
	if len(l) != before+1 || l[before].Client != client || l[before].Alias != alias || l[before].Open {
		s.Fatalf("%+v", l)
	}
	s.sends(l[before].Device, asks(uint32(l[before].To), alias, uint32(client)))
	return line{Stream: l[before], client: s.next}
}

// accept lets the device accept a stream.
func (s *site) accept(l line, window uint32) line {
	s.Helper()
	s.next++
	l.device = s.next
	s.tell(l.Device, confirm(l.to(), l.device, window))
	s.sends(l.Client, confirmed(l.client, l.from()))
	l.Open = true
	if !slices.Contains(s.Streams(), l.Stream) {
		s.Fatalf("%+v", s.Streams())
	}
	return l
}

// stream is a new stream with these windows of the client and the device.
func (s *site) stream(client int, alias string, windows ...uint32) line {
	s.Helper()
	windows = append(windows, 1000, 1000)
	return s.accept(s.wait(client, alias, windows[0]), windows[1])
}

// dialed returns a site where the client 1 of the tenant t has a stream to the
// device 0, which has leased the name web.
func dialed(t *testing.T, windows ...uint32) (*site, line) {
	t.Helper()
	s := open(t, small())
	s.join(seedT, "t")
	s.join(seedT, "t")
	s.lease(0, "web")
	return s, s.stream(1, "web", windows...)
}
