package relay_test

import (
	"strings"
	"testing"

	"speakeasy/api"
	"speakeasy/message"
	"speakeasy/relay"
)

// P22.1: from a dial to the bytes, in both directions, and to the end.
func TestStream(t *testing.T) {
	s := open(t, small())
	s.join(seedT, "t")
	s.join(seedT, "t")
	s.lease(0, "ssh")
	s.lease(0, "web")
	s.tell(1, dial(70, 100, "web"))
	s.streams(relay.Stream{Tenant: "t", Alias: "web", Epoch: 2, Client: 1})
	s.sends(1)
	s.sends(0, asks(0, "web", 1))
	s.tell(0, confirm(0, 80, 100))
	s.streams(relay.Stream{Tenant: "t", Alias: "web", Epoch: 2, Client: 1, Open: true})
	s.sends(0)
	s.sends(1, confirmed(70, 0))
	s.tell(1, data(0, "from the client"))
	s.sends(0, data(80, "from the client"))
	s.tell(0, data(0, "from the device"))
	s.sends(1, data(70, "from the device"))
	s.tell(1, eof(0))
	s.sends(0, eof(80))
	s.tell(0, data(0, "more"), eof(0), closing(0))
	s.sends(1, data(70, "more"), eof(70), closing(70))
	s.sends(0, closing(80))
	s.streams()
	s.quiet()
}

// P22.1: the port and the number of the client are passed on.
func TestDialPort(t *testing.T) {
	s := open(t, small())
	for range 4 {
		s.join(seedT, "t")
	}
	s.lease(2, "web")
	for _, port := range []uint32{0, 1, 65536, 1<<32 - 1} {
		s.tell(3, say(90, numbers(5, 9, 9), "direct-tcpip", text("web")+u32(port)+text("")+u32(9)))
		n := uint32(s.Streams()[0].To)
		s.sends(2, say(90, numbers(n, 40, 20), "forwarded-tcpip", text("web")+u32(port)+text("client")+u32(3)))
		s.tell(2, rejected(n, 1))
		s.sends(3, rejected(5, 1))
	}
}

// P22.1, P22.4: without a lease nothing is sent to any device.
func TestDialNone(t *testing.T) {
	s := open(t, small())
	s.join(seedT, "t")
	s.join(seedT, "t")
	s.join(seedU, "u")
	s.lease(0, "web")
	s.lease(2, "ssh")
	for n, aliases := range [][]string{{"ssh", "we", ""}, {"ssh", "web1", "Web", strings.Repeat("x", 5000)}, {"web", "t/web"}} {
		for i, alias := range aliases {
			s.tell(n, dial(uint32(50+i), 100, alias))
			s.streams()
			s.sends(n, rejected(uint32(50+i), 2))
			s.quiet()
		}
	}
	s.tell(0, cancel("web"))
	s.sends(0, yes(""))
	s.tell(1, dial(60, 100, "web"))
	s.sends(1, rejected(60, 2))
	s.quiet()
	s.lease(0, "web")
	s.Reset(0)
	s.tell(1, dial(60, 100, "web"))
	s.sends(1, rejected(60, 2))
	for range 7 {
		s.Tick()
	}
	s.tell(2, dial(61, 100, "ssh"))
	s.sends(2, rejected(61, 2))
	s.streams()
}

// P22.1: a device without a free channel cannot be dialed; without a lease that does
// not matter, and with too many streams neither.
func TestDialFull(t *testing.T) {
	c := small()
	c.Streams = 9
	s := open(t, c)
	for range 3 {
		s.join(seedT, "t")
	}
	s.lease(0, "web")
	for range 4 {
		s.wait(1, "web", 100)
	}
	s.tell(2, dial(60, 100, "web"), dial(61, 100, "none"))
	s.sends(2, rejected(60, 4), rejected(61, 2))
	s.quiet()
	if len(s.Streams()) != 4 {
		t.Errorf("%+v", s.Streams())
	}
	s.tell(0, rejected(2, 5))
	s.sends(1, rejected(1003, 5))
	if x := s.wait(2, "web", 100); x.To != 2 {
		t.Errorf("%+v", x)
	}
}

// P22.1: a device that refuses, with any reason.
func TestFailed(t *testing.T) {
	s, x := dialed(t)
	for _, reason := range []uint32{0, 1, 4, 1<<32 - 1} {
		y := s.wait(1, "web", 100)
		s.tell(0, say(92, numbers(y.to(), reason), "some text", "en"))
		s.streams(x.Stream)
		s.sends(1, rejected(y.client, reason))
		s.quiet()
	}
}

// P22.1: a device that is its own client.
func TestSelf(t *testing.T) {
	s := open(t, small())
	s.join(seedT, "t")
	s.lease(0, "web")
	x := s.wait(0, "web", 100)
	s.tell(0, confirm(x.to(), 50, 100))
	s.sends(0, confirmed(x.client, x.from()))
	s.tell(0, data(x.from(), "abc"), data(x.to(), "xyz"), eof(x.from()))
	s.sends(0, data(x.client, "xyz"), data(50, "abc"), eof(50))
	s.tell(0, closing(x.to()))
	s.sends(0, closing(x.client), closing(50))
	s.tell(0, closing(x.from()))
	s.streams()
	s.quiet()
	y := s.wait(0, "web", 100)
	if y.From != 0 || y.To != 1 {
		t.Errorf("%+v", y)
	}
	s.breaks(0, api.ErrKind, say(52, nil))
	s.sends(0)
	s.streams()
	s.leased()
}

// P22.1: bytes are read as far as there is room at the destination, whose queue is
// filled again as soon as it has sent something.
func TestRoom(t *testing.T) {
	both(t, func(s *site, a, b side) {
		s.tell(a.n, data(a.to, "0123456789abcdefghij"))
		s.sends(a.n, adjust(a.from, 20)) // queued at the destination, whose window is 0
		s.quiet()
		s.tell(a.n, data(a.to, "KLMNOPQRSTUVWXYZ0123"))
		s.quiet() // 30 are queued, 10 are unread
		s.tell(b.n, adjust(b.to, 5))
		s.sends(b.n, data(b.from, "01234"))
		s.quiet()
		s.tell(b.n, adjust(b.to, 100))
		s.sends(b.n, data(b.from, "56789abcdefghijKLMNOPQRST"+"UVWXY"), data(b.from, "Z0123"))
		s.sends(a.n, adjust(a.from, 20))
		s.quiet()
	})
}

// side is an end of a stream: its connection, and the numbers of its channel at the
// relay and at the guest.
type side struct {
	n        int
	to, from uint32
}

// both calls a test with both directions of a stream; the window at the destination
// is 0.
func both(t *testing.T, test func(s *site, source, destination side)) {
	t.Helper()
	for _, back := range []bool{false, true} {
		windows := []uint32{1000, 0}
		if back {
			windows = []uint32{0, 1000}
		}
		s, x := dialed(t, windows...)
		a, b := side{1, x.from(), x.client}, side{0, x.to(), x.device}
		if back {
			a, b = b, a
		}
		test(s, a, b)
	}
}

// P22.1: an eof is passed on behind the last byte, once.
func TestEnded(t *testing.T) {
	both(t, func(s *site, a, b side) {
		s.tell(a.n, data(a.to, strings.Repeat("x", 20)), data(a.to, strings.Repeat("y", 20)), eof(a.to))
		s.sends(a.n, adjust(a.from, 30))
		s.quiet()
		s.tell(b.n, adjust(b.to, 20))
		s.sends(b.n, data(b.from, strings.Repeat("x", 20)))
		s.tell(b.n, data(b.to, "in the other direction"[:20]))
		s.sends(a.n, data(a.from, "in the other direction"[:20]))
		s.tell(b.n, adjust(b.to, 19))
		s.sends(b.n, adjust(b.from, 20), data(b.from, strings.Repeat("y", 19)))
		s.tell(b.n, adjust(b.to, 1))
		s.sends(b.n, data(b.from, "y"), eof(b.from))
		s.tell(b.n, data(b.to, "more"), eof(b.to))
		s.sends(a.n, data(a.from, "more"), eof(a.from))
		s.tell(b.n, adjust(b.to, 100))
		s.quiet()
		if l := s.Streams(); len(l) != 1 || !l[0].Open {
			s.Errorf("%+v", l)
		}
		s.tell(a.n, closing(a.to))
		s.sends(a.n, closing(a.from))
		s.sends(b.n, closing(b.from))
		s.streams()
	})
}

// P22.1: an eof without bytes, and one that finds the queue not empty.
func TestEndedEmpty(t *testing.T) {
	both(t, func(s *site, a, b side) {
		s.tell(a.n, eof(a.to))
		s.sends(b.n, eof(b.from))
		s.tell(b.n, eof(b.to))
		s.sends(a.n, eof(a.from))
		s.quiet()
	})
	both(t, func(s *site, a, b side) {
		s.tell(a.n, data(a.to, "abc"))
		s.tell(a.n, eof(a.to))
		s.quiet()
		s.tell(b.n, adjust(b.to, 3))
		s.sends(b.n, data(b.from, "abc"), eof(b.from))
		s.quiet()
	})
}

// P22.1: with a close, what does not fit is lost, and what is queued is still sent.
func TestClosed(t *testing.T) {
	both(t, func(s *site, a, b side) {
		s.tell(a.n, data(a.to, strings.Repeat("x", 20)), data(a.to, strings.Repeat("y", 20)), closing(a.to))
		s.streams()
		s.sends(a.n, closing(a.from))
		s.quiet()
		s.tell(b.n, data(b.to, "nobody reads it"))
		s.tell(b.n, adjust(b.to, 29))
		s.sends(b.n, data(b.from, strings.Repeat("x", 20)+strings.Repeat("y", 9)))
		s.tell(b.n, adjust(b.to, 50))
		s.sends(b.n, data(b.from, "y"), closing(b.from))
		s.tell(b.n, closing(b.to))
		s.quiet()
	})
}

// P22.1: an eof and a close behind bytes that fit.
func TestEndedClosed(t *testing.T) {
	both(t, func(s *site, a, b side) {
		s.tell(b.n, adjust(b.to, 100), data(b.to, "back"))
		s.tell(a.n, data(a.to, "abc"), eof(a.to), closing(a.to))
		s.sends(b.n, data(b.from, "abc"), eof(b.from), closing(b.from))
		s.sends(a.n, closing(a.from)) // what was queued there nobody reads any more
		s.streams()
		s.tell(b.n, eof(b.to), closing(b.to))
		s.quiet()
	})
	both(t, func(s *site, a, b side) { // the eof is behind bytes that are lost
		s.tell(a.n, data(a.to, strings.Repeat("x", 20)), data(a.to, strings.Repeat("y", 20)), eof(a.to), closing(a.to))
		s.sends(a.n, closing(a.from))
		s.tell(b.n, adjust(b.to, 100))
		s.sends(b.n, data(b.from, strings.Repeat("x", 20)+strings.Repeat("y", 10)), closing(b.from))
	})
}

// P22.1: both ends close at the same time.
func TestBothClose(t *testing.T) {
	s, x := dialed(t)
	s.tell(1, data(x.from(), "abc"), closing(x.from()))
	s.tell(0, data(x.to(), "xyz"), closing(x.to()))
	s.streams()
	s.sends(0, closing(x.device))
	s.sends(1, closing(x.client))
	s.quiet()
	if y := s.stream(1, "web"); y.From != x.From || y.To != x.To {
		t.Errorf("%+v", y)
	}
}

// P22.1: what is torn down is closed behind the bytes that are queued; bytes that
// are received and do not fit, or are received later, are not forwarded.
func TestTornDown(t *testing.T) {
	both(t, func(s *site, a, b side) {
		s.tell(a.n, data(a.to, strings.Repeat("x", 20)), data(a.to, strings.Repeat("y", 20)))
		s.sends(a.n, adjust(a.from, 30))
		s.tell(0, cancel("web"))
		s.streams()
		more := []message.Msg{closing(a.from)}
		if a.n == 0 {
			more = []message.Msg{yes(""), closing(a.from)}
		}
		s.sends(a.n, more...)
		s.tell(a.n, data(a.to, "more"), eof(a.to))
		if b.n == 0 {
			s.sends(0, yes(""))
		}
		s.quiet()
		s.tell(b.n, adjust(b.to, 100))
		s.sends(b.n, data(b.from, strings.Repeat("x", 20)+strings.Repeat("y", 10)), closing(b.from))
		s.tell(b.n, data(b.to, "more"), closing(b.to))
		s.tell(a.n, closing(a.to))
		s.quiet()
	})
}

// P22.1, P22.2: without its client or its device a stream ends, and others stay.
func TestGone(t *testing.T) {
	for _, reset := range []bool{false, true} {
		for n := range 2 {
			s := open(t, small())
			for range 4 {
				s.join(seedT, "t")
			}
			s.lease(0, "web")
			s.lease(2, "other")
			x, y, z := s.wait(1, "web", 100), s.stream(3, "other"), s.stream(1, "web")
			s.tell(0, data(z.to(), "abc"))
			s.tell(1, data(z.from(), "xyz"))
			if reset {
				s.Reset(n)
			} else {
				s.breaks(n, api.ErrKind, say(52, nil))
				s.sends(n)
			}
			s.streams(y.Stream)
			if n == 0 {
				s.sends(1, rejected(x.client, 2), data(z.client, "abc"), closing(z.client))
				s.tell(1, dial(9, 9, "web"))
				s.sends(1, rejected(9, 2))
				continue
			}
			s.sends(0, data(z.device, "xyz"), closing(z.device))
			s.tell(0, confirm(x.to(), 70, 100))
			s.sends(0, closing(70))
			s.stream(3, "web")
		}
	}
}

// P22.1: a connection that is client of one stream and device of another.
func TestGoneBoth(t *testing.T) {
	s, x := dialed(t)
	s.join(seedT, "t")
	s.lease(1, "own")
	s.lease(2, "far")
	y, z := s.stream(0, "own"), s.stream(2, "web")
	w := s.stream(1, "far")
	s.breaks(1, api.ErrKind, say(52, nil))
	s.streams(z.Stream)
	s.sends(0, closing(x.device), closing(y.client))
	s.sends(2, closing(w.device))
	s.sends(1)
}

// P22.1: streams are moved in the order of their creation: two of them that share a
// destination do not share its queues.
func TestTwoStreams(t *testing.T) {
	s, x := dialed(t, 1000, 1000)
	y := s.stream(1, "web", 1000, 0)
	s.tell(1, data(y.from(), "second"), data(x.from(), "first"))
	s.sends(0, data(x.device, "first"))
	s.tell(0, adjust(y.to(), 100), data(y.to(), "back"))
	s.sends(0, data(y.device, "second"))
	s.sends(1, data(y.client, "back"))
	s.tell(0, closing(x.to()))
	s.sends(0, closing(x.device))
	s.sends(1, closing(x.client))
	s.streams(y.Stream)
	s.tell(1, data(y.from(), "still"))
	s.sends(0, data(y.device, "still"))
}

// P22.3: however much is sent, the relay permits no more than its queues can hold.
func TestQueuedBytes(t *testing.T) {
	both(t, func(s *site, a, b side) {
		credit, sent := 40, 0
		for range 30 {
			n := min(credit-sent, 20)
			s.tell(a.n, data(a.to, strings.Repeat("x", n)))
			sent += n
			payloads, err := s.guests[a.n].Feed(s.Out(a.n))
			if err != nil {
				s.Fatal(err)
			}
			for _, payload := range payloads {
				m, _ := message.Parse(payload)
				if m.Kind != 93 {
					s.Fatalf("%v", m)
				}
				credit += int(m.U[1])
			}
		}
		if sent != 60 { // 30 are queued, 30 are unread
			s.Fatalf("%d bytes", sent)
		}
		if err := s.feed(a.n, s.packets(a.n, data(a.to, "x"))); api.Code(err) != api.Code(api.ErrWindow) {
			s.Fatalf("%v", err)
		}
		s.removed(a.n)
	})
}

// P22.1: a window that would overflow ends the connection.
func TestOverflow(t *testing.T) {
	s, x := dialed(t)
	s.tell(1, adjust(x.from(), 1<<32-1001))
	s.breaks(1, api.ErrWindow, adjust(x.from(), 1))
	s.sends(1)
	s.sends(0, closing(x.device))
	s.streams()
}

// P22.1: an event of a channel does not belong to a stream that was created behind
// it, in the same call, with a channel of the same number: a close of the channel
// that had that number before.
func TestOldClosed(t *testing.T) {
	s := open(t, small())
	s.join(seedT, "t")
	s.lease(0, "web")
	x := s.wait(0, "web", 100)
	s.tell(0, confirm(x.to(), 50, 100))
	s.sends(0, confirmed(x.client, x.from()))
	s.tell(0, cancel("web"), forward("web", 80, true))
	s.sends(0, yes(""), yes(""), closing(x.client), closing(50))
	s.tell(0, dial(60, 100, "web"), closing(x.from()), closing(x.to()))
	want := relay.Stream{Tenant: "t", Alias: "web", Epoch: 2, From: 2}
	s.streams(want)
	s.sends(0, asks(0, "web", 0))
	s.tell(0, confirm(0, 61, 100), data(0, "abc"))
	want.Open = true
	s.streams(want)
	s.sends(0, confirmed(60, 2), data(60, "abc"))
}

// P22.1: the same with a refusal of the channel that had the number before.
func TestOldFailed(t *testing.T) {
	s := open(t, small())
	s.join(seedT, "t")
	s.lease(0, "web")
	x := s.wait(0, "web", 100)
	s.tell(0, cancel("web"), forward("web", 80, true))
	s.sends(0, yes(""), yes(""), rejected(x.client, 2))
	s.tell(0, dial(60, 100, "web"), rejected(x.to(), 9))
	want := relay.Stream{Tenant: "t", Alias: "web", Epoch: 2, From: 0, To: 1}
	s.streams(want)
	s.sends(0, asks(1, "web", 0))
	s.tell(0, rejected(1, 7))
	s.sends(0, rejected(60, 7))
	s.streams()
}

// P22.1: streams are moved before every Out and after every Feed. During a key
// exchange that shows: then Out takes bytes from the queue of a channel, which gets
// room, but returns none.
func TestMovedOften(t *testing.T) {
	for _, fed := range []bool{false, true} {
		s, x := dialed(t)
		if err := s.guests[0].Rekey(); err != nil {
			t.Fatal(err)
		}
		s.tell(0)
		s.sends(0) // the relay's kexinit
		long := "0123456789abcdefghijKLMNOPQRSTUVWXYZ0123"
		s.tell(1, data(x.from(), long[:20]), data(x.from(), long[20:]))
		if s.Out(0) != "" { // 30 bytes wait for the end of the exchange
			t.Fatal("bytes were sent")
		}
		s.guests[0].twin.Send(data(x.device, long[:30]).Bytes())
		if fed {
			s.tell(1)
			s.Reset(1)
			s.guests[0].twin.Send(data(x.device, long[30:]).Bytes())
			s.guests[0].twin.Send(closing(x.device).Bytes())
		} else {
			s.sends(1, adjust(x.client, 40))
			s.guests[0].twin.Send(data(x.device, long[30:]).Bytes())
		}
		if s.Out(0) != "" {
			t.Fatal("bytes were sent")
		}
		s.tell(0)
		s.sends(0)
		s.tell(0)
		s.sends(0)
		if v := s.guests[0].Vars(); v.Kexes != 2 || !v.Open {
			t.Errorf("%+v", v)
		}
	}
}
