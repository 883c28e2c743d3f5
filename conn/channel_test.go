package conn_test

import (
	"math"
	"strings"
	"testing"

	"speakeasy/api"
	"speakeasy/conn"
	"speakeasy/message"
	"speakeasy/mux"
)

// P21.1: the channels that Open asks for.
func TestOpen(t *testing.T) {
	c := small(t)
	c.Mux = mux.Config{Channels: 32, Buffer: 1, Window: 70000, Most: 30000}
	p := enter(t, c)
	tests := []struct {
		alias  string
		port   uint32
		from   int
		lowest uint32
	}{
		{"web", 80, 7, 7},
		{"", 0, 0, 0},
		{"\x00\xff", 1<<32 - 1, 1<<32 - 1, 1<<32 - 1},
		{"a", 1, 1 << 32, 0},
		{"a", 1, 1<<32 + 5, 5},
		{"a", 1, -1, 1<<32 - 1},
		{"a", 1, -3 << 32, 0},
		{"a", 1, math.MaxInt, 1<<32 - 1},
		{"a", 1, math.MinInt, 0},
		{strings.Repeat("x", 1024-22), 2, 3, 3},
	}
	for i, test := range tests {
		if n, err := p.c.Open(test.alias, test.port, test.from); n != i || err != nil {
			t.Fatalf("%.20q: %d, %v", test.alias, n, err)
		}
		p.sends(say(90, numbers(uint32(i), 70000, 30000), "forwarded-tcpip", text(test.alias)+u32(test.port)+text("client")+u32(test.lowest)))
	}
	for _, n := range []int{1024 - 21, 40000} {
		if n, err := p.c.Open(strings.Repeat("x", n), 2, 3); n != 0 || err != api.ErrBig {
			t.Errorf("%d, %v", n, err)
		}
	}
	p.sends()
}

// P21.1: the errors of Open.
func TestOpenErrors(t *testing.T) {
	for _, create := range []func(*testing.T, conn.Config) *pair{begin, connect, ask} {
		p := create(t, small(t))
		for _, alias := range []string{"web", strings.Repeat("x", 2000)} {
			if n, err := p.c.Open(alias, 80, 7); n != 0 || err != api.ErrState {
				t.Errorf("%d, %v", n, err)
			}
		}
	}
	p := enter(t, small(t))
	for i := range 3 {
		if n, err := p.c.Open("web", 80, 7); n != i || err != nil {
			t.Errorf("%d, %v", n, err)
		}
	}
	if n, err := p.c.Open("web", 80, 7); n != 0 || err != api.ErrFull {
		t.Errorf("%d, %v", n, err)
	}
	if n, err := p.c.Open(strings.Repeat("x", 2000), 80, 7); n != 0 || err != api.ErrBig {
		t.Errorf("%d, %v", n, err)
	}
	p.c.End(2) // see over
	p.twin.Close(2, "")
	p.sends()
	p.over()
}

// P21.1: channels are accepted and rejected, with an empty text.
func TestAcceptReject(t *testing.T) {
	p := enter(t, small(t))
	for n := range 3 {
		p.tell(say(90, numbers(uint32(10+n), 9, 9), "direct-tcpip", dialing("web", 80)), conn.Event{Kind: conn.Dial, Channel: n, Word: "web", Port: 80})
	}
	for _, n := range []int{-1, 3, 100, math.MaxInt, math.MinInt} {
		if err := p.c.Accept(n); err != api.ErrNone {
			t.Errorf("%d: %v", n, err)
		}
		if err := p.c.Reject(n, 4); err != api.ErrNone {
			t.Errorf("%d: %v", n, err)
		}
	}
	if p.c.Reject(1, 1<<32-1) != nil || p.c.Accept(2) != nil || p.c.Reject(0, 0) != nil {
		t.Fatal("an error")
	}
	p.sends(say(92, numbers(11, 1<<32-1), "", ""), say(91, numbers(12, 2, 50, 20), ""), say(92, numbers(10, 0), "", ""))
	if err := p.c.Accept(2); err != api.ErrState {
		t.Errorf("%v", err)
	}
	if err := p.c.Reject(2, 4); err != api.ErrState {
		t.Errorf("%v", err)
	}
	if err := p.c.Reject(1, 4); err != api.ErrNone {
		t.Errorf("%v", err)
	}
	p.sends()
}

// P21.1: bytes, in both directions, up to the end of a channel.
func TestBytes(t *testing.T) {
	p := enter(t, small(t))
	p.open(t, 7, 25, 10)
	if err := p.c.Write(0, "abcdefghijklmno"); err != nil {
		t.Fatal(err)
	}
	p.waits(t, 0, 15, 0)
	p.sends(say(94, numbers(7), "abcdefghij"), say(94, numbers(7), "klmno"))
	p.waits(t, 0, 0, 0)
	p.c.Write(0, "0123456789pqrst")
	p.sends(say(94, numbers(7), "0123456789"))
	p.waits(t, 0, 5, 0)
	if err := p.c.EOF(0); err != nil {
		t.Fatal(err)
	}
	if err := p.c.EOF(0); err != api.ErrState {
		t.Errorf("%v", err)
	}
	p.sends()
	p.tell(say(94, numbers(0), "0123456789abcdefghij"), conn.Event{Kind: conn.Came})
	p.tell(say(94, numbers(0), "0123456789"), conn.Event{Kind: conn.Came})
	p.waits(t, 0, 5, 30)
	for _, part := range []struct {
		most int
		s    string
	}{{-1, ""}, {0, ""}, {3, "012"}, {21, "3456789abcdefghij0123"}, {100, "456789"}, {5, ""}} {
		if s, err := p.c.Read(0, part.most); s != part.s || err != nil {
			t.Errorf("%q, %v, not %q", s, err, part.s)
		}
	}
	p.sends(say(93, numbers(7, 30)))
	p.tell(say(93, numbers(0, 5)))
	p.sends(say(94, numbers(7), "pqrst"), say(96, numbers(7)))
	if err := p.c.Close(0); err != nil {
		t.Fatal(err)
	}
	if err := p.c.Close(0); err != api.ErrState {
		t.Errorf("%v", err)
	}
	p.sends(say(97, numbers(7)))
	p.tell(say(97, numbers(0)), conn.Event{Kind: conn.Closed})
	if err := p.c.Close(0); err != api.ErrNone {
		t.Errorf("%v", err)
	}
	if s, err := p.c.Read(0, 5); s != "" || err != api.ErrNone {
		t.Errorf("%q, %v", s, err)
	}
	p.sends()
}

// open lets the guest open the next channel, for which it has this number, window
// and packet size.
func (p *pair) open(t *testing.T, number, window, most uint32) int {
	t.Helper()
	events, err := p.feed(p.packets(say(90, numbers(number, window, most), "direct-tcpip", dialing("web", 80))))
	if err != nil || len(events) != 1 || events[0].Kind != conn.Dial || p.c.Accept(events[0].Channel) != nil {
		t.Fatalf("%+v, %v", events, err)
	}
	p.twin.Send(say(91, numbers(number, uint32(events[0].Channel), 50, 20), "").Bytes())
	p.sends()
	return events[0].Channel
}

func (p *pair) waits(t *testing.T, n, queued, unread int) {
	t.Helper()
	if a, b := p.c.Waits(n); a != queued || b != unread {
		t.Errorf("channel %d: %d and %d wait, not %d and %d", n, a, b, queued, unread)
	}
}

// room checks Room, and that Write accepts as much and no more.
func (p *pair) room(t *testing.T, n, want int) {
	t.Helper()
	if got := p.c.Room(n); got != want {
		t.Fatalf("channel %d has room for %d, not %d", n, got, want)
	}
	if err := p.c.Write(n, strings.Repeat("x", want+1)); err == nil {
		t.Fatalf("channel %d accepts more than %d", n, want)
	}
}

// P21.1: Room, for all capacities.
func TestRoomCapacity(t *testing.T) {
	for _, size := range []int{math.MinInt, -1, 0, 1, 2, 40, 100000, 1<<24 - 1, 1 << 24, 1<<24 + 1, 1 << 32, math.MaxInt} {
		c := small(t)
		c.Mux.Buffer = size
		p := enter(t, c)
		p.open(t, 7, 1, 1)
		want := min(max(size, 1), 1<<24)
		p.room(t, 0, want)
		if err := p.c.Write(0, strings.Repeat("x", want)); err != nil {
			t.Errorf("%v", err)
		}
		p.room(t, 0, 0)
		p.sends(say(94, numbers(7), "x"))
		p.room(t, 0, 1)
	}
}

// P21.1: Room, for channels in all states.
func TestRoomStates(t *testing.T) {
	p := enter(t, small(t))
	p.room(t, 0, 0)
	p.room(t, -1, 0)
	p.tell(say(90, numbers(7, 9, 9), "direct-tcpip", dialing("web", 80)), conn.Event{Kind: conn.Dial, Word: "web", Port: 80})
	p.room(t, 0, 0)
	p.c.Open("web", 80, 1)
	p.room(t, 1, 0)
	p.c.Accept(0)
	p.room(t, 0, 40)
	p.c.Write(0, "abc")
	p.room(t, 0, 37)
	p.tell(say(96, numbers(0)), conn.Event{Kind: conn.Ended})
	p.room(t, 0, 37)
	p.c.EOF(0)
	p.room(t, 0, 0)

	for _, close := range []func(p *pair){
		func(p *pair) { p.c.Close(0) },
		func(p *pair) { p.tell(say(97, numbers(0)), conn.Event{Kind: conn.Closed}) },
	} {
		p = enter(t, small(t))
		p.open(t, 7, 9, 9)
		p.room(t, 0, 40)
		close(p)
		p.room(t, 0, 0)
	}
}

// P21.1: the methods of channels are those of the multiplexer, also before login
// and when the connection is gone.
func TestNoChannels(t *testing.T) {
	for _, create := range []func(*testing.T, conn.Config) *pair{begin, connect, ask, enter} {
		p := create(t, small(t))
		for range 2 {
			for _, n := range []int{math.MinInt, -1, 0, 1, 31, math.MaxInt} {
				s, none := p.c.Read(n, 5)
				for _, err := range []error{none, p.c.Accept(n), p.c.Reject(n, 1), p.c.Write(n, "x"), p.c.EOF(n), p.c.Close(n)} {
					if err != api.ErrNone || s != "" {
						t.Errorf("%d: %v, %q", n, err, s)
					}
				}
				p.room(t, n, 0)
				p.waits(t, n, 0, 0)
			}
			p.c.End(11)
		}
	}
	p := enter(t, small(t))
	p.open(t, 7, 9, 9)
	p.tell(say(94, numbers(0), "abc"), conn.Event{Kind: conn.Came})
	p.breaks([]message.Msg{success()}, api.ErrKind)
	if s, err := p.c.Read(0, 9); s != "abc" || err != nil {
		t.Errorf("%q, %v", s, err)
	}
	p.room(t, 0, 40)
	if p.c.Write(0, "abc") != nil || p.c.EOF(0) != nil || p.c.Close(0) != nil {
		t.Errorf("an error")
	}
	p.sends()
	p.waits(t, 0, 3, 0) // nothing was taken from the queue
}
