package relay_test

import (
	"math"
	"slices"
	"strings"
	"testing"

	"speakeasy/api"
	"speakeasy/auth"
	"speakeasy/lease"
	"speakeasy/message"
	"speakeasy/relay"
)

// P22.1: a new relay has nothing.
func TestNew(t *testing.T) {
	s := open(t, small())
	for _, n := range []int{math.MinInt, -1, 0, 1, math.MaxInt} {
		who, in := s.Who(n)
		if who != "" || in || s.Out(n) != "" || s.Feed(n, "x") != api.ErrNone || s.Feed(n, "") != api.ErrNone || s.Reset(n) != api.ErrNone {
			t.Errorf("connection %d", n)
		}
	}
	if len(s.Conns()) != 0 || s.Clock() != 0 {
		t.Errorf("%v, %d", s.Conns(), s.Clock())
	}
	s.leased()
	s.streams()
}

// P22.1: the numbers of connections, and what they send first: the seed is that of
// the relay with the number (see begin).
func TestConnect(t *testing.T) {
	s := open(t, small())
	for n := range 5 {
		if got := s.begin(); got != n {
			t.Errorf("%d, not %d", got, n)
		}
	}
	for n := range 5 {
		s.sends(n)
	}
	for range 3 {
		if n, err := s.Connect(); n != 0 || err != api.ErrFull {
			t.Errorf("%d, %v", n, err)
		}
	}
	if err := s.Reset(2); err != nil {
		t.Error(err)
	}
	if n := s.begin(); n != 5 {
		t.Errorf("%d", n)
	}
	s.sends(5)
	if l := s.Conns(); !slices.Equal(l, []int{0, 1, 3, 4, 5}) {
		t.Errorf("%v", l)
	}
	for n := 6; n < 120; n++ {
		s.Reset(n - 1)
		s.begin()
		s.sends(n)
	}
	if l := s.Conns(); !slices.Equal(l, []int{0, 1, 3, 4, 119}) {
		t.Errorf("%v", l)
	}
}

// P22.1, P22.3: the maximum number of connections is limited itself.
func TestConns(t *testing.T) {
	for _, most := range []int{math.MinInt, -1, 0, 1, 2, 63, 64, 65, math.MaxInt} {
		c := small()
		c.Conns = most
		s := open(t, c)
		for n := range min(max(most, 1), 64) {
			if got, err := s.Connect(); got != n || err != nil {
				t.Fatalf("%d: %d, %v", most, got, err)
			}
		}
		if n, err := s.Connect(); n != 0 || err != api.ErrFull {
			t.Errorf("%d: %d, %v", most, n, err)
		}
	}
}

// P22.1: a relay without a store lets nobody in, after as many attempts as are
// permitted.
func TestNoStore(t *testing.T) {
	for _, tries := range []int{-1, 1, 4, 50} {
		c := small()
		c.Tries = tries
		s := open(t, c)
		s.Relay = relay.New(c, nil)
		s.connect()
		request := auth.Request(s.guests[0].Vars().ID, seedT, "t")
		s.tell(0, say(5, nil, "ssh-userauth"))
		s.sends(0, say(6, nil, "ssh-userauth"))
		for range min(max(tries, 1), 20) {
			s.tell(0, request)
			s.sends(0, message.Msg{Kind: 51, N: [][]string{{"publickey"}}, B: []bool{false}})
		}
		if err := s.feed(0, s.packets(0, request)); api.Code(err) != api.Code(api.ErrAuth) {
			t.Errorf("%v", err)
		}
		s.guests[0].twin.Close(14, "")
		s.removed(0)
		s.sends(0)
	}
}

// P22.1: connections log in independently of each other.
func TestWho(t *testing.T) {
	s := open(t, small())
	s.connect()
	s.join(seedT, "t")
	s.join(seedU, "u")
	s.join(seedT, "t")
	for n, tenant := range []string{"", "t", "u", "t", "", ""} {
		if who, in := s.Who(n); who != tenant || in != (tenant != "") {
			t.Errorf("%d: %q, %v", n, who, in)
		}
	}
	s.quiet()
}

// P22.1: an error of Feed is that of the connection, which is removed; what it had
// to send can be fetched once.
func TestFeedError(t *testing.T) {
	s := open(t, small())
	for range 3 {
		s.join(seedT, "t")
	}
	s.tell(0, forward("web", 0, true))
	s.guests[0].twin.Send(yes(u32(0)).Bytes())
	s.breaks(0, api.ErrKind, say(52, nil))
	s.leased()
	s.breaks(1, api.ErrEnd, global("tcpip-forward", "", true))
	s.sends(1)
	s.sends(0)
	s.guests[2].Close(11, "")
	if err := s.feed(2, s.guests[2].Out()); api.Where(err) != "conn" || api.Code(err) != api.Code(api.ErrGone) {
		t.Errorf("%v", err)
	}
	s.removed(2)
	if s.Out(2) != "" || len(s.Conns()) != 0 {
		t.Errorf("%v", s.Conns())
	}
	if n := s.join(seedT, "t"); n != 3 {
		t.Errorf("%d", n)
	}
}

// P22.1: with an error, the events before it count, even if their answers cannot be
// sent.
func TestEventsBeforeError(t *testing.T) {
	s := open(t, small())
	s.join(seedT, "t")
	s.join(seedT, "t")
	s.lease(0, "web")
	x := s.wait(1, "web", 100)
	s.next++
	l := s.packets(0, confirm(x.to(), s.next, 100), data(x.to(), "last words"))
	s.guests[0].Close(11, "")
	if err := s.feed(0, l+s.guests[0].Out()); api.Code(err) != api.Code(api.ErrGone) {
		t.Fatalf("%v", err)
	}
	s.removed(0)
	s.sends(0)
	s.sends(1, confirmed(x.client, x.from()), data(x.client, "last words"), closing(x.client))
	s.streams()

	s.tell(1, forward("ssh", 80, false)) // epoch 2
	l = s.packets(1, forward("web", 80, true), dial(9, 1, "ssh"), dial(10, 1, "none"))
	s.guests[1].Close(11, "")
	s.feed(1, l+s.guests[1].Out())
	s.sends(1)
	s.leased()
	s.streams()
	n := s.join(seedT, "t")
	s.lease(n, "web")
	s.leased(lease.Lease{Tenant: "t", Alias: "web", Owner: n, Epoch: 4})
}

// P22.1: a reset removes a connection, on which nothing is sent any more.
func TestReset(t *testing.T) {
	s, x := dialed(t)
	s.lease(0, "ssh")
	s.tell(0, beat(true), data(x.to(), "abc"))
	if err := s.Reset(0); err != nil {
		t.Fatal(err)
	}
	s.removed(0)
	s.leased()
	s.streams()
	if out := s.Out(0); out != "" {
		t.Errorf("%q", out)
	}
	s.sends(1, data(x.client, "abc"), closing(x.client))
	if n := s.join(seedT, "t"); n != 2 {
		t.Errorf("%d", n)
	}
	s.lease(2, "web")
	y := s.stream(1, "web")
	s.tell(1, data(y.from(), "xyz"))
	if err := s.Reset(1); err != nil {
		t.Fatal(err)
	}
	s.sends(2, data(y.device, "xyz"), closing(y.device))
	s.leased(lease.Lease{Tenant: "t", Alias: "web", Owner: 2, Epoch: 3})
	s.streams()
	if s.Out(1) != "" || !slices.Equal(s.Conns(), []int{2}) {
		t.Errorf("%v", s.Conns())
	}
}

// P22.5: a connection without bytes is ended exactly at its tick, with its reason.
func TestSilent(t *testing.T) {
	for _, silent := range []int{-5, 0, 1, 2, 3, 9} {
		c := small()
		c.Silent = silent
		s := open(t, c)
		s.begin()
		for tick := 1; tick < max(silent, 1); tick++ {
			s.Tick()
			if s.Clock() != tick || len(s.Conns()) != 1 || s.Feed(0, "") != nil {
				t.Fatalf("at %d of %d: %v", tick, silent, s.Conns())
			}
		}
		s.Tick()
		s.removed(0)
		s.guests[0].twin.Close(11, "")
		s.sends(0)
	}
	c := small()
	c.Silent = math.MaxInt
	s := open(t, c)
	s.begin()
	for range 1000 {
		s.Tick()
	}
	if len(s.Conns()) != 1 || s.Clock() != 1000 {
		t.Errorf("%v", s.Conns())
	}
}

// P22.5: each connection has its own time: from its beginning, and again from any
// byte.
func TestHeard(t *testing.T) {
	s := open(t, small())
	s.join(seedT, "t")
	for range 4 {
		s.Tick()
	}
	s.join(seedT, "t") // until 13
	s.begin()          // until 13
	for range 3 {
		s.Tick()
	}
	s.guests[0].twin.Feed("\x00")
	if err := s.Feed(0, "\x00"); err != nil { // until 16
		t.Error(err)
	}
	s.Feed(1, "") // which are no bytes
	s.Out(1)
	for range 5 {
		s.Tick()
	}
	if l := s.Conns(); len(l) != 3 {
		t.Errorf("%v", l)
	}
	s.Tick()
	if l := s.Conns(); !slices.Equal(l, []int{0}) {
		t.Errorf("%v at %d", l, s.Clock())
	}
	s.Tick()
	s.Tick()
	if l := s.Conns(); !slices.Equal(l, []int{0}) {
		t.Errorf("%v at %d", l, s.Clock())
	}
	s.Tick()
	if l := s.Conns(); len(l) != 0 || s.Clock() != 16 {
		t.Errorf("%v at %d", l, s.Clock())
	}
	s.guests[2].twin.Close(11, "")
	s.sends(2)
	if s.Out(2) != "" || s.Out(0) == "" || s.Out(1) == "" || s.Out(0) != "" {
		t.Error("what was left is not sent once")
	}
	s.begin() // it counts as heard now
	for range 8 {
		s.Tick()
	}
	if l := s.Conns(); !slices.Equal(l, []int{3}) {
		t.Errorf("%v", l)
	}
	s.Tick()
	s.removed(3)
}

// P22.1, P22.5: with a silent connection its leases and streams end; what it has to
// send is still sent.
func TestSilentStreams(t *testing.T) {
	s, x := dialed(t)
	s.lease(1, "ssh")
	y := s.wait(0, "ssh", 100)
	for range 8 {
		s.Tick()
		s.tell(1, beat(false))
		if s.Clock() == 4 {
			s.tell(0, beat(false))
		}
	}
	s.tell(1, forward("more", 0, true), data(x.from(), "abc"))
	for range 4 {
		s.Tick()
		s.tell(1, beat(false))
	}
	if len(s.Conns()) != 2 || len(s.Streams()) != 1 || s.Streams()[0] != y.Stream { // the lease of web has expired at 10
		t.Fatalf("%v, %+v", s.Conns(), s.Streams())
	}
	s.tell(1, global("x", "", true))
	s.Tick()
	s.removed(0)
	s.streams()
	s.leased(lease.Lease{Tenant: "t", Alias: "more", Owner: 1, Epoch: 3, Last: 12}, lease.Lease{Tenant: "t", Alias: "ssh", Owner: 1, Epoch: 2, Last: 12})
	s.guests[0].twin.Close(11, "")
	s.sends(0)
	s.sends(1, yes(u32(0)), no(), closing(x.client))
	s.tell(1, confirm(y.to(), 77, 100)) // nobody waits for it
	s.sends(1, closing(77))
}

// P22.1: the answers that a silent connection has not fetched come before its end.
func TestSilentLeft(t *testing.T) {
	s := open(t, small())
	s.join(seedT, "t")
	s.tell(0, forward("web", 80, true), beat(true), forward("Web", 80, true))
	for range 9 {
		s.Tick()
	}
	s.removed(0)
	for _, m := range []message.Msg{yes(""), yes(""), no()} {
		s.guests[0].twin.Send(m.Bytes())
	}
	s.guests[0].twin.Close(11, "")
	s.sends(0)
	if s.Out(0) != "" {
		t.Error("it is sent twice")
	}
}

// P22.1: the arguments of New stay as they are, and the store is looked at whenever
// somebody logs in.
func TestStore(t *testing.T) {
	keys := tenants(t)
	s := open(t, small())
	s.Relay = relay.New(small(), keys)
	s.connect()
	s.connect()
	if !slices.Equal(keys.Tenants(), []string{"t", "u"}) || len(keys.Keys("t")) != 1 {
		t.Errorf("%v", keys.Tenants())
	}
	s.tell(0, say(5, nil, "ssh-userauth"), auth.Request(s.guests[0].Vars().ID, seedT, "t"))
	keys.Revoke(keys.Keys("t")[0])
	s.tell(1, say(5, nil, "ssh-userauth"), auth.Request(s.guests[1].Vars().ID, seedT, "t"))
	if _, in := s.Who(0); !in {
		t.Error("it is out")
	}
	if who, in := s.Who(1); in {
		t.Errorf("%q is in", who)
	}
}

// P22.1: what was returned is the caller's.
func TestMemory(t *testing.T) {
	s, x := dialed(t)
	for range 2 {
		conns, leases, streams := s.Conns(), s.Leases(), s.Streams()
		clear(conns)
		clear(leases)
		clear(streams)
		_ = append(streams[:0], relay.Stream{Tenant: "u"})
		s.streams(x.Stream)
		s.leased(lease.Lease{Tenant: "t", Alias: "web", Epoch: 1})
		if l := s.Conns(); !slices.Equal(l, []int{0, 1}) {
			t.Errorf("%v", l)
		}
	}
}

// P22.1: any bytes on a connection, at any step, end at most this connection.
func TestAnyBytes(t *testing.T) {
	for _, bytes := range []string{"x", "\n", "SSH-1.0-x\n", strings.Repeat("\x00", 40), strings.Repeat("\xff", 40), strings.Repeat("x", 300)} {
		s, x := dialed(t)
		s.begin()
		s.connect()
		for _, n := range []int{3, 2, 1} {
			s.feed(n, bytes)
			s.feed(n, strings.Repeat(bytes, 300))
			s.removed(n)
			s.guests[n].twin.Close(2, "")
			s.sends(n)
		}
		s.sends(0, closing(x.device))
		s.streams()
		s.lease(0, "more")
		if n := s.join(seedT, "t"); n != 4 {
			t.Errorf("%d", n)
		}
	}
}
