package relay_test

import (
	"strings"
	"testing"

	"speakeasy/lease"
	"speakeasy/message"
)

// P22.1: names are leased; the answer has a port if the request has none.
func TestForward(t *testing.T) {
	s := open(t, small())
	s.join(seedT, "t")
	s.join(seedU, "u")
	s.tell(0, forward("web", 80, true))
	s.sends(0, yes(""))
	s.tell(1, forward("web", 0, true))
	s.sends(1, yes(u32(0)))
	s.Tick()
	s.tell(0, forward("ssh", 0, false), forward("a-1", 1<<32-1, true))
	s.sends(0, yes(""))
	s.leased(
		lease.Lease{Tenant: "t", Alias: "a-1", Epoch: 4, Last: 1},
		lease.Lease{Tenant: "t", Alias: "ssh", Epoch: 3, Last: 1},
		lease.Lease{Tenant: "t", Alias: "web", Epoch: 1},
		lease.Lease{Tenant: "u", Alias: "web", Owner: 1, Epoch: 2},
	)
	s.quiet()
}

// P22.1, P22.3: names that cannot be leased.
func TestForwardErrors(t *testing.T) {
	s := open(t, small())
	for _, seed := range [][32]byte{seedT, seedT, seedU} {
		s.join(seed, map[[32]byte]string{seedT: "t", seedU: "u"}[seed])
	}
	for _, alias := range []string{"", "Web", "-a", "a.b", strings.Repeat("x", 64), strings.Repeat("x", 30000), "\x00"} {
		for _, port := range []uint32{0, 80} {
			s.tell(0, forward(alias, port, true), forward(alias, port, false))
			s.sends(0, no())
		}
	}
	s.leased()
	s.lease(0, "a")
	s.lease(0, "b")
	s.lease(1, strings.Repeat("x", 63))
	refuse := func(n int, alias string) {
		t.Helper()
		before := s.Leases()
		s.tell(n, forward(alias, 0, true), forward(alias, 80, false))
		s.sends(n, no())
		s.leased(before...)
	}
	refuse(0, "a") // it has it already
	refuse(0, "c") // its tenant has three
	refuse(1, "c")
	s.lease(2, "a")
	s.lease(2, "b")
	refuse(2, "c") // all tenants have five
	refuse(2, "a")
	s.tell(0, cancel("b"))
	s.sends(0, yes(""))
	s.lease(2, "c")
	refuse(0, "b")
	s.quiet()
}

// P22.1: another device of the tenant takes a name over: the streams of the old
// lease are torn down, and no others.
func TestTakeover(t *testing.T) {
	s, x := dialed(t)
	s.join(seedT, "t") // 2
	s.join(seedU, "u") // 3
	s.lease(0, "ssh")
	s.lease(3, "web")
	y := s.stream(1, "ssh")
	waiting := s.wait(1, "web", 100)
	other := s.stream(3, "web")
	s.tell(1, data(x.from(), "abc"))
	s.Tick()
	s.tell(2, forward("web", 0, true))
	s.sends(2, yes(u32(0)))
	s.sends(0, data(x.device, "abc"), closing(x.device))
	s.sends(1, rejected(waiting.client, 2), closing(x.client))
	s.streams(y.Stream, other.Stream)
	s.leased(
		lease.Lease{Tenant: "t", Alias: "ssh", Epoch: 2},
		lease.Lease{Tenant: "t", Alias: "web", Owner: 2, Epoch: 4, Last: 1},
		lease.Lease{Tenant: "u", Alias: "web", Owner: 3, Epoch: 3},
	)
	s.tell(2, forward("web", 80, true)) // it has it: nothing is torn down
	s.sends(2, no())
	z := s.stream(1, "web")
	if z.Device != 2 || z.Epoch != 4 {
		t.Errorf("%+v", z)
	}
	s.tell(2, forward("web", 80, false))
	s.tell(3, forward("ssh", 80, true))
	s.sends(3, yes(""))
	s.streams(y.Stream, other.Stream, z.Stream)
	s.quiet()
}

// P22.1: names are cancelled by those who hold them.
func TestCancel(t *testing.T) {
	s, x := dialed(t)
	s.join(seedU, "u") // 2
	s.lease(0, "ssh")
	y := s.stream(1, "ssh")
	waiting := s.wait(1, "web", 100)
	for _, alias := range []string{"none", "", "Web", "we", strings.Repeat("x", 1000)} {
		s.tell(0, cancel(alias))
		s.sends(0, no())
	}
	for _, n := range []int{1, 2} {
		s.tell(n, cancel("web"))
		s.sends(n, no())
	}
	s.streams(x.Stream, y.Stream, waiting.Stream)
	s.tell(1, data(x.from(), "abc"))
	s.tell(0, cancel("web"))
	s.sends(0, yes(""), data(x.device, "abc"), closing(x.device))
	s.sends(1, rejected(waiting.client, 2), closing(x.client))
	s.streams(y.Stream)
	s.leased(lease.Lease{Tenant: "t", Alias: "ssh", Epoch: 2})
	s.tell(0, cancel("web"))
	s.sends(0, no())
	s.tell(0, global("cancel-tcpip-forward", text("ssh")+u32(0), false), global("cancel-tcpip-forward", text("ssh")+u32(0), false))
	s.sends(0, closing(y.device))
	s.sends(1, closing(y.client))
	s.streams()
	s.leased()
	s.tell(0, forward("web", 80, true))
	s.sends(0, yes(""))
	s.leased(lease.Lease{Tenant: "t", Alias: "web", Epoch: 3})
}

// P22.1: a cancelled stream that was waiting has a channel at the device, which may
// still be confirmed or refused.
func TestCancelWaiting(t *testing.T) {
	for _, refused := range []bool{false, true} {
		s, _ := dialed(t)
		x := s.wait(1, "web", 100)
		s.tell(0, cancel("web"))
		s.sends(1, rejected(x.client, 2), closing(1001))
		s.sends(0, yes(""), closing(1002))
		s.lease(0, "web")
		if refused {
			s.tell(0, rejected(x.to(), 9))
			s.quiet()
		} else {
			s.tell(0, confirm(x.to(), 77, 100))
			s.sends(0, closing(77))
			s.tell(0, data(x.to(), "abc"), eof(x.to()), closing(x.to()))
		}
		s.quiet()
		s.streams()
		if y := s.stream(1, "web"); y.To != x.To || y.From != x.From {
			t.Errorf("%+v", y)
		}
	}
}

// P22.1: heartbeats keep the leases of a connection, and only these.
func TestBeat(t *testing.T) {
	s := open(t, small())
	s.join(seedT, "t")
	s.join(seedT, "t")
	s.lease(0, "a")
	s.lease(1, "b")
	for range 4 {
		s.Tick()
	}
	s.lease(0, "c")
	s.tell(0, beat(true), beat(false))
	s.sends(0, yes(""))
	s.leased(
		lease.Lease{Tenant: "t", Alias: "a", Epoch: 1, Last: 4},
		lease.Lease{Tenant: "t", Alias: "b", Owner: 1, Epoch: 2},
		lease.Lease{Tenant: "t", Alias: "c", Epoch: 3, Last: 4},
	)
	s.Tick()
	s.tell(1, beat(true))
	s.sends(1, yes(""))
	s.Tick()
	s.leased(
		lease.Lease{Tenant: "t", Alias: "a", Epoch: 1, Last: 4},
		lease.Lease{Tenant: "t", Alias: "b", Owner: 1, Epoch: 2, Last: 5},
		lease.Lease{Tenant: "t", Alias: "c", Epoch: 3, Last: 4},
	)
	s.quiet()
}

// P22.1, P22.2: leases expire, and their streams end.
func TestExpire(t *testing.T) {
	s := open(t, small())
	for range 3 {
		s.join(seedT, "t")
	}
	s.lease(0, "web")
	for range 3 {
		s.Tick()
	}
	s.lease(0, "ssh")
	s.lease(1, "own")
	x, y, z := s.stream(2, "web"), s.stream(2, "ssh"), s.wait(2, "own", 9)
	s.tell(2, data(x.from(), "abc"))
	s.Tick()
	s.Tick()
	s.streams(x.Stream, y.Stream, z.Stream)
	s.quietBut(0, data(x.device, "abc"))
	s.Tick() // 6
	s.leased(lease.Lease{Tenant: "t", Alias: "own", Owner: 1, Epoch: 3, Last: 3}, lease.Lease{Tenant: "t", Alias: "ssh", Epoch: 2, Last: 3})
	s.streams(y.Stream, z.Stream)
	s.sends(0, closing(x.device))
	s.sends(2, closing(x.client))
	s.Tick()
	s.Tick()
	s.streams(y.Stream, z.Stream)
	s.quiet()
	s.Tick() // 9: leases of two devices at once, and of device 1 nothing was heard since 3
	s.leased()
	s.streams()
	if l := s.Conns(); len(l) != 3 || s.Clock() != 9 {
		t.Errorf("%v", l)
	}
	s.sends(0, closing(y.device))
	s.sends(1)
	s.sends(2, rejected(z.client, 2), closing(y.client))
}

// quietBut checks that the relay sends something on one connection only.
func (s *site) quietBut(n int, m ...message.Msg) {
	s.Helper()
	s.sends(n, m...)
	s.quiet()
}

// P22.3: the maximum number of streams is limited itself, and each tenant has its
// own; streams that are removed do not count.
func TestStreamsLimit(t *testing.T) {
	for _, most := range []int{-7, 0, 1, 2, 5} {
		c := small()
		c.Streams = most
		c.Mux.Channels = 32
		s := open(t, c)
		s.join(seedT, "t")
		s.join(seedT, "t")
		s.join(seedU, "u")
		s.lease(0, "web")
		s.lease(2, "web")
		var l []line
		for range max(most, 0) {
			l = append(l, s.wait(1, "web", 100))
		}
		for range 2 {
			s.tell(1, dial(7, 100, "web"))
			s.sends(1, rejected(7, 4))
			s.quiet()
		}
		if most <= 0 {
			s.streams()
			continue
		}
		s.stream(2, "web")
		for _, x := range l[1:] { // open ones count as well
			s.accept(x, 100)
		}
		s.tell(1, dial(7, 100, "web"))
		s.sends(1, rejected(7, 4))
		s.tell(0, rejected(l[0].to(), 9))
		s.sends(1, rejected(l[0].client, 9))
		s.wait(1, "web", 100)
		s.tell(1, dial(7, 100, "web"))
		s.sends(1, rejected(7, 4))
		s.quiet()
	}
}

// P22.3: as many streams as the channels permit, if no lower limit is configured.
func TestManyStreams(t *testing.T) {
	for _, most := range []int{32, 1024, 1 << 40} {
		c := small()
		c.Streams = most
		c.Mux.Channels = 32
		s := open(t, c)
		for range 3 {
			s.join(seedT, "t")
		}
		s.lease(0, "web")
		for range 32 {
			s.wait(1, "web", 100)
		}
		s.tell(1, dial(7, 100, "web"))
		s.tell(2, dial(7, 100, "web"))
		s.sends(1, rejected(7, 4))
		s.sends(2, rejected(7, 4))
		s.quiet()
		if l := s.Streams(); len(l) != 32 {
			t.Errorf("%d streams", len(l))
		}
	}
}
