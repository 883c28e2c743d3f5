package peer_test

import (
	"math"
	"slices"
	"strings"
	"testing"

	"speakeasy/api"
	"speakeasy/message"
	"speakeasy/peer"
)

func granted(word string) peer.Event { return peer.Event{Kind: peer.Granted, Word: word} }

func denied(word string) peer.Event { return peer.Event{Kind: peer.Denied, Word: word} }

// aliases are ones that requests can have.
func aliases() []string {
	return []string{"web", "", "A b", "\x00\xff", strings.Repeat("x", 254), strings.Repeat("y", 255)}
}

// P23.1: requests as they are sent, and the events with their answers.
func TestRequests(t *testing.T) {
	p := enter(t, small())
	for _, alias := range aliases() {
		for _, port := range []uint32{0, 1, 80, 65536, math.MaxUint32} {
			rest := text(alias) + u32(port)
			if err := p.Forward(alias, port); err != nil {
				t.Fatal(err)
			}
			p.sends(global("tcpip-forward", rest, true))
			p.tell(yes(""), granted(alias))
			if err := p.Cancel(alias, port); err != nil {
				t.Fatal(err)
			}
			p.sends(global("cancel-tcpip-forward", rest, true))
			p.tell(no(), denied(alias))
		}
	}
	if err := p.Beat(); err != nil {
		t.Fatal(err)
	}
	p.sends(global("keepalive@openssh.com", "", true))
	p.tell(yes("whatever the rest is"), granted(""))
	p.breaks([]message.Msg{no()}, api.ErrState)
}

// P23.1, P23.3: answers belong to the requests in the order of these, also if these
// have not been sent yet.
func TestAnswers(t *testing.T) {
	p := enter(t, small())
	for _, err := range []error{p.Forward("a", 0), p.Beat(), p.Cancel("b", 0), p.Forward("c", 0), p.Forward("a", 0)} {
		if err != nil {
			t.Fatal(err)
		}
	}
	p.tell(no(), denied("a"))
	p.sends(global("tcpip-forward", text("a")+u32(0), true), global("keepalive@openssh.com", "", true), global("cancel-tcpip-forward", text("b")+u32(0), true),
		global("tcpip-forward", text("c")+u32(0), true), global("tcpip-forward", text("a")+u32(0), true))
	p.feeds(p.packets(yes(u32(0)), no(), yes("")), granted(""), denied("b"), granted("c"))
	p.Forward("d", 1)
	p.sends(global("tcpip-forward", text("d")+u32(1), true))
	p.feeds(p.packets(no()), denied("a"))
	p.breaks([]message.Msg{yes(""), yes(""), no()}, api.ErrState, granted("d"))
}

// P23.1: each kind of answer, without a request, is an error.
func TestNoRequest(t *testing.T) {
	for _, create := range stages()[1:] {
		for _, m := range []message.Msg{yes(""), yes("x"), no()} {
			p := create(t, small())
			p.breaks([]message.Msg{m}, api.ErrState)
		}
	}
}

// P23.1: the errors of requests. A peer that is not logged in has the first one.
func TestRequestErrors(t *testing.T) {
	for _, create := range stages()[:3] {
		p := create(t, small())
		p.refuses(api.ErrState)
		p.sends()
	}
	p := enter(t, small())
	for _, n := range []int{256, 257, 1000, 40000} {
		alias := strings.Repeat("x", n)
		for _, err := range []error{p.Forward(alias, 80), p.Cancel(alias, 80)} {
			if err != api.ErrBig {
				t.Errorf("%d bytes: %v", n, err)
			}
		}
		if n, err := p.Dial(alias, 80); n != 0 || err != api.ErrBig {
			t.Errorf("%d, %v", n, err)
		}
	}
	p.sends()
	if l := p.Channels(); len(l) != 0 {
		t.Errorf("channels %v", l)
	}
	p.breaks([]message.Msg{yes("")}, api.ErrState) // none of them waits for an answer
}

// P23.1: the channels that Dial asks for.
func TestDial(t *testing.T) {
	for _, alias := range aliases() {
		p := enter(t, small())
		for i, port := range []uint32{0, 80, math.MaxUint32} {
			if n, err := p.Dial(alias, port); n != i || err != nil {
				t.Fatalf("%.20q: %d, %v", alias, n, err)
			}
		}
		if l := p.Channels(); !slices.Equal(l, []int{0, 1, 2}) {
			t.Errorf("channels %v", l)
		}
		if n, err := p.Dial(alias, 80); n != 0 || err != api.ErrFull {
			t.Errorf("%d, %v", n, err)
		}
		if n, err := p.Dial(strings.Repeat("x", 256), 80); n != 0 || err != api.ErrBig {
			t.Errorf("%d, %v", n, err)
		}
		p.sends(dials(0, alias, 0), dials(1, alias, 80), dials(2, alias, math.MaxUint32))
		p.tell(say(92, numbers(1, 2), "", ""), peer.Event{Kind: peer.Failed, Channel: 1, Reason: 2})
		if n, err := p.Dial(alias, 9); n != 1 || err != nil {
			t.Errorf("%d, %v", n, err)
		}
		p.sends(dials(1, alias, 9))
		p.breaks([]message.Msg{no()}, api.ErrState) // channels are no requests
	}
}

// P23.1: channels are accepted and rejected, with an empty text.
func TestAcceptReject(t *testing.T) {
	p := enter(t, small())
	for n := range 3 {
		p.tell(asks(uint32(10+n), "web"), peer.Event{Kind: peer.Asked, Channel: n, Word: "web", Port: 80})
	}
	p.sends()
	for _, n := range []int{-1, 3, 100, math.MaxInt, math.MinInt} {
		if a, b := p.Accept(n), p.Reject(n, 4); a != api.ErrNone || b != api.ErrNone {
			t.Errorf("%d: %v, %v", n, a, b)
		}
	}
	if p.Reject(1, math.MaxUint32) != nil || p.Accept(2) != nil || p.Reject(0, 0) != nil {
		t.Fatal("an error")
	}
	p.sends(say(92, numbers(11, math.MaxUint32), "", ""), say(91, numbers(12, 2, 50, 20), ""), say(92, numbers(10, 0), "", ""))
	if a, b, c := p.Accept(2), p.Reject(2, 4), p.Reject(1, 4); a != api.ErrState || b != api.ErrState || c != api.ErrNone {
		t.Errorf("%v, %v, %v", a, b, c)
	}
	p.sends()
	if l := p.Channels(); !slices.Equal(l, []int{2}) {
		t.Errorf("channels %v", l)
	}
}

func (p *pair) waits(n, queued, unread int) {
	p.Helper()
	if a, b := p.Waits(n); a != queued || b != unread {
		p.Errorf("channel %d: %d and %d wait, not %d and %d", n, a, b, queued, unread)
	}
}

// P23.1: bytes, in both directions, up to the end of a channel.
func TestBytes(t *testing.T) {
	p := enter(t, small())
	p.open(7, 25, 10)
	if err := p.Write(0, "abcdefghijklmno"); err != nil {
		t.Fatal(err)
	}
	p.waits(0, 15, 0)
	p.sends(say(94, numbers(7), "abcdefghij"), say(94, numbers(7), "klmno"))
	p.waits(0, 0, 0)
	p.Write(0, "0123456789pqrst")
	p.sends(say(94, numbers(7), "0123456789"))
	p.waits(0, 5, 0)
	if a, b := p.EOF(0), p.EOF(0); a != nil || b != api.ErrState {
		t.Errorf("%v, %v", a, b)
	}
	p.sends()
	p.tell(say(94, numbers(0), "0123456789abcdefghij"), peer.Event{Kind: peer.Came})
	p.tell(say(94, numbers(0), "0123456789"), peer.Event{Kind: peer.Came})
	p.waits(0, 5, 30)
	for _, part := range []struct {
		most int
		s    string
	}{{-1, ""}, {0, ""}, {3, "012"}, {21, "3456789abcdefghij0123"}, {100, "456789"}, {5, ""}} {
		if s, err := p.Read(0, part.most); s != part.s || err != nil {
			t.Errorf("%q, %v, not %q", s, err, part.s)
		}
	}
	p.sends(say(93, numbers(7, 30)))
	p.tell(say(93, numbers(0, 5)))
	p.sends(say(94, numbers(7), "pqrst"), say(96, numbers(7)))
	if a, b := p.Close(0), p.Close(0); a != nil || b != api.ErrState {
		t.Errorf("%v, %v", a, b)
	}
	p.sends(say(97, numbers(7)))
	p.tell(say(97, numbers(0)), peer.Event{Kind: peer.Closed})
	if s, err := p.Read(0, 5); s != "" || err != api.ErrNone || p.Close(0) != api.ErrNone {
		t.Errorf("%q, %v", s, err)
	}
	p.sends()
}

// P23.1: the methods of channels are those of the multiplexer, also before login and
// when the peer is gone.
func TestNoChannels(t *testing.T) {
	for _, create := range stages() {
		p := create(t, small())
		for range 2 {
			for _, n := range []int{math.MinInt, -1, 0, 1, 31, math.MaxInt} {
				s, none := p.Read(n, 5)
				for _, err := range []error{none, p.Accept(n), p.Reject(n, 1), p.Write(n, "x"), p.EOF(n), p.Close(n)} {
					if err != api.ErrNone || s != "" {
						t.Errorf("%d: %v, %q", n, err, s)
					}
				}
				p.waits(n, 0, 0)
			}
			p.End(11)
		}
	}
	p := enter(t, small())
	p.open(7, 9, 9)
	p.tell(say(94, numbers(0), "abc"), peer.Event{Kind: peer.Came})
	p.breaks([]message.Msg{service()}, api.ErrKind)
	if s, err := p.Read(0, 9); s != "abc" || err != nil {
		t.Errorf("%q, %v", s, err)
	}
	if p.Write(0, "abc") != nil || p.EOF(0) != nil || p.Close(0) != nil {
		t.Errorf("an error")
	}
	p.sends()
	p.waits(0, 3, 0) // nothing was taken from the queue
}
