package peer_test

import (
	"strings"
	"testing"

	"speakeasy/api"
	"speakeasy/auth"
	"speakeasy/message"
	"speakeasy/mux"
	"speakeasy/peer"
)

// everyKind returns a message of each kind that a session passes on.
func everyKind(t *testing.T) map[int]message.Msg {
	t.Helper()
	l := map[int]message.Msg{}
	for kind := range 256 {
		fields, ok := message.Fields(kind)
		if !ok || kind < 5 || kind >= 20 && kind <= 31 {
			continue
		}
		m := message.Msg{Kind: kind}
		for i := range len(fields) {
			switch fields[i] {
			case 'u':
				m.U = append(m.U, 0)
			case 's', 'r':
				m.S = append(m.S, "x")
			case 'n':
				m.N = append(m.N, nil)
			case 'b':
				m.B = append(m.B, true)
			}
		}
		l[kind] = m
	}
	return l
}

// outcome is what a message leads to: events and an answer, or an error.
type outcome struct {
	wrong  error
	events []peer.Event
	sent   []message.Msg
}

// P23.1: each kind of message, before an exchange of services, before login and
// after it.
func TestKinds(t *testing.T) {
	for stage, create := range stages()[1:] {
		for kind, m := range everyKind(t) {
			p := create(t, small())
			want := map[int]outcome{
				6:  {sent: []message.Msg{auth.Request(p.relay.Vars().ID, own, "t")}},
				51: {events: []peer.Event{{Kind: peer.Refused}, {Kind: peer.Gone}}},
				52: {events: []peer.Event{{Kind: peer.In}}},
				53: {},
				60: {},
				80: {sent: []message.Msg{no()}},
				81: {wrong: api.ErrState},
				82: {wrong: api.ErrState},
				90: {sent: []message.Msg{say(92, numbers(0, 3), "", "")}},
			}
			w, ok := want[kind]
			switch {
			case kind >= 90 && stage < 2:
				w = outcome{wrong: api.ErrState}
			case kind > 90:
				w = outcome{wrong: api.ErrNone}
			case !ok:
				w = outcome{wrong: api.ErrKind}
			}
			if w.wrong != nil {
				p.breaks([]message.Msg{m}, w.wrong)
				continue
			}
			p.tell(m, w.events...)
			p.is(kind == 52 || kind != 51 && stage == 2, kind == 51)
			if kind == 51 {
				p.twin.Close(14, "")
			}
			p.sends(w.sent...)
		}
	}
}

// P23.1: requests of the relay are refused if an answer is wanted, at any time.
func TestGlobalRequests(t *testing.T) {
	for _, create := range stages()[1:] {
		p := create(t, small())
		for _, name := range []string{"", "x", "tcpip-forward", "keepalive@openssh.com", "hostkeys-00@openssh.com", strings.Repeat("x", 2000)} {
			for _, rest := range []string{"", "x", text("web") + u32(80), strings.Repeat("x", 30000)} {
				p.tell(global(name, rest, false))
				p.sends()
				p.tell(global(name, rest, true))
				p.sends(no())
			}
		}
		p.feeds(p.packets(global("x", "", true), global("y", "", false), global("z", "", true)))
		p.sends(no(), no())
	}
}

// P23.1: banners and replies to queries have no effect.
func TestNoEffect(t *testing.T) {
	for i, create := range stages()[1:] {
		p := create(t, small())
		for _, s := range []string{"", "x", strings.Repeat("\xff", 30000)} {
			p.feeds(p.packets(say(53, nil, s, "en"), say(60, nil, "ssh-ed25519", s)))
			p.is(i == 2, false)
			p.sends()
		}
	}
}

// P23.1: channels that the relay asks for.
func TestAsked(t *testing.T) {
	p := enter(t, small())
	for _, kind := range []string{"", "session", "direct-tcpip", "forwarded-tcpip ", "FORWARDED-TCPIP", "x11"} {
		for _, rest := range []string{"", dialed("web", 80)} {
			p.tell(say(90, numbers(5, 9, 9), kind, rest))
			p.sends(say(92, numbers(5, 3), "", ""))
		}
	}
	good := dialed("web", 80)
	for n := range len(good) {
		p.tell(say(90, numbers(6, 9, 9), "forwarded-tcpip", good[:n]))
		p.sends(say(92, numbers(6, 1), "", ""))
	}
	for _, rest := range []string{good + "\x00", "\xff\xff\xff\xff" + good[4:], text("web") + u32(80) + "\xff\xff\xff\xff" + good[15:], good + good} {
		p.tell(say(90, numbers(7, 9, 9), "forwarded-tcpip", rest))
		p.sends(say(92, numbers(7, 1), "", ""))
	}
	if l := p.Channels(); len(l) != 0 {
		t.Errorf("channels %v", l)
	}
	for i, alias := range []string{"web", "", strings.Repeat("\xff", 32000)} {
		rest := text(alias) + u32(1<<32-1-uint32(i)) + text("") + u32(1<<32-1)
		p.tell(say(90, numbers(9, 9, 9), "forwarded-tcpip", rest), peer.Event{Kind: peer.Asked, Channel: i, Word: alias, Port: 1<<32 - 1 - uint32(i)})
	}
	p.tell(asks(10, "web"))
	p.sends(say(92, numbers(10, 4), "", ""))
}

// P23.1: all events of channels.
func TestEvents(t *testing.T) {
	p := enter(t, small())
	for i := range 3 {
		if n, err := p.Dial("web", uint32(i)); n != i || err != nil {
			t.Fatalf("%d, %v", n, err)
		}
	}
	p.sends(dials(0, "web", 0), dials(1, "web", 1), dials(2, "web", 2))
	p.tell(say(92, numbers(1, 77), "text", "en"), peer.Event{Kind: peer.Failed, Channel: 1, Reason: 77})
	p.tell(say(91, numbers(2, 12, 100, 30), "rest"), peer.Event{Kind: peer.Confirmed, Channel: 2})
	p.tell(asks(40, "ssh"), peer.Event{Kind: peer.Asked, Channel: 1, Word: "ssh", Port: 80})
	p.tell(say(93, numbers(2, 5)))
	p.tell(say(94, numbers(2), "bytes"), peer.Event{Kind: peer.Came, Channel: 2})
	p.tell(say(95, numbers(2, 1), "other bytes"))
	p.tell(message.Msg{Kind: 98, U: numbers(2), S: []string{"env", ""}, B: []bool{true}})
	p.tell(say(99, numbers(2)))
	p.tell(say(100, numbers(2)))
	p.tell(say(96, numbers(2)), peer.Event{Kind: peer.Ended, Channel: 2})
	p.tell(say(97, numbers(2)), peer.Event{Kind: peer.Closed, Channel: 2})
	p.sends(say(100, numbers(12)), say(97, numbers(12)))
	p.feeds(p.packets(say(91, numbers(0, 10, 1, 1), ""), say(94, numbers(0), "a"), say(96, numbers(0))),
		peer.Event{Kind: peer.Confirmed}, peer.Event{Kind: peer.Came}, peer.Event{Kind: peer.Ended})
	if err := p.Accept(1); err != nil {
		t.Fatal(err)
	}
	p.sends(say(91, numbers(40, 1, 50, 20), ""))
}

// P23.1: errors of channels, after the events of the messages before them.
func TestChannelErrors(t *testing.T) {
	came := peer.Event{Kind: peer.Came}
	x := func(n int) message.Msg { return say(94, numbers(0), strings.Repeat("x", n)) }
	tests := []struct {
		l     []message.Msg
		wrong error
		want  []peer.Event
	}{
		{[]message.Msg{say(94, numbers(1), "x")}, api.ErrNone, nil},
		{[]message.Msg{say(94, numbers(1<<32-1), "x")}, api.ErrNone, nil},
		{[]message.Msg{say(91, numbers(0, 0, 1, 1), "")}, api.ErrState, nil},
		{[]message.Msg{say(92, numbers(0, 0), "", "")}, api.ErrState, nil},
		{[]message.Msg{x(21)}, api.ErrWindow, nil},
		{[]message.Msg{x(20), x(20), x(11)}, api.ErrWindow, []peer.Event{came, came}},
		{[]message.Msg{say(93, numbers(0, 1<<32-101))}, nil, nil},
		{[]message.Msg{say(93, numbers(0, 1<<32-100))}, api.ErrWindow, nil},
		{[]message.Msg{say(96, numbers(0)), x(1)}, api.ErrState, []peer.Event{{Kind: peer.Ended}}},
		{[]message.Msg{say(97, numbers(0)), say(97, numbers(0))}, api.ErrState, []peer.Event{{Kind: peer.Closed}}},
		{[]message.Msg{asks(0, "web"), say(94, numbers(1), "x")}, api.ErrState, []peer.Event{{Kind: peer.Asked, Channel: 1, Word: "web", Port: 80}}},
	}
	for _, test := range tests {
		p := enter(t, small())
		p.open(7, 100, 30)
		if test.wrong == nil {
			p.feeds(p.packets(test.l...), test.want...)
			continue
		}
		p.breaks(test.l, test.wrong, test.want...)
	}
}

// open lets the relay open the next channel, for which it has this number, window
// and packet size. The peer has the configuration small.
func (p *pair) open(number, window, most uint32) int {
	p.Helper()
	events, err := p.feed(p.packets(say(90, numbers(number, window, most), "forwarded-tcpip", dialed("web", 80))))
	if err != nil || len(events) != 1 || events[0].Kind != peer.Asked || p.Accept(events[0].Channel) != nil {
		p.Fatalf("%+v, %v", events, err)
	}
	p.sends(say(91, numbers(number, uint32(events[0].Channel), 50, 20), ""))
	return events[0].Channel
}

// P23.1: the channels have the configuration of the peer.
func TestMux(t *testing.T) {
	c := small()
	c.Mux = mux.Config{Channels: 1, Buffer: 3, Window: 70000, Most: 30000}
	p := enter(t, c)
	if n, err := p.Dial("web", 80); n != 0 || err != nil {
		t.Fatal(n, err)
	}
	p.sends(say(90, numbers(0, 70000, 30000), "direct-tcpip", text("web")+u32(80)+text("peer")+u32(0)))
	p.tell(asks(1, "web"))
	p.sends(say(92, numbers(1, 4), "", ""))
	p.tell(say(91, numbers(0, 3, 9, 9), ""), peer.Event{Kind: peer.Confirmed})
	if err := p.Write(0, "abcd"); err != api.ErrQuota {
		t.Errorf("%v", err)
	}
	p.tell(say(94, numbers(0), strings.Repeat("x", 30000)), peer.Event{Kind: peer.Came})
	p.breaks([]message.Msg{say(94, numbers(0), strings.Repeat("x", 30001))}, api.ErrWindow)
}
