package conn_test

import (
	"strings"
	"testing"

	"speakeasy/api"
	"speakeasy/auth"
	"speakeasy/conn"
	"speakeasy/edsign"
	"speakeasy/message"
)

// P21.1: services that are requested, before and after login.
func TestServices(t *testing.T) {
	p := connect(t, small(t))
	for range 2 {
		p.tell(service("ssh-userauth"))
		p.sends(accept("ssh-userauth"))
	}
	for _, name := range []string{"ssh-connection", "", "ssh-userauth ", "x"} {
		p = ask(t, small(t))
		p.breaks([]message.Msg{service(name)}, api.ErrKind)
	}
	p = enter(t, small(t))
	for _, name := range []string{"ssh-userauth", "ssh-connection"} {
		p.tell(service(name))
		p.sends(accept(name))
	}
	p.breaks([]message.Msg{service("x")}, api.ErrKind)
	p.somebody("t")
}

// P21.1: requests to log in, and their replies.
func TestLogin(t *testing.T) {
	c := small(t)
	p := ask(t, c)
	key := edsign.Key(seedT)
	for range 2 { // queries do not count as attempts
		for range 4 {
			p.tell(auth.Query("t", key))
			p.sends(say(60, nil, "ssh-ed25519", message.KeyBlob(key)))
			p.nobody()
		}
		p.tell(p.request(seedX, "t"))
		p.sends(failure())
		p.nobody()
	}
	p.tell(p.request(seedU, "u"), conn.Event{Kind: conn.In, Word: "u"})
	p.sends(success())
	p.somebody("u")
	p.breaks([]message.Msg{p.request(seedT, "t")}, api.ErrState)
	p.somebody("u")
}

// P21.1: one failed attempt after the permitted ones ends the connection, with its
// own reason; errors of other kinds have another one.
func TestTries(t *testing.T) {
	for _, tries := range []int{-5, 0, 1, 2, 20, 21, 1000} {
		c := small(t)
		c.Tries = tries
		p := ask(t, c)
		for range min(max(tries, 1), 20) {
			p.tell(p.request(seedT, "u"))
			p.sends(failure())
		}
		p.breaks([]message.Msg{p.request(seedT, "t")}, api.ErrAuth)
		p.nobody()
	}
	p := connect(t, small(t))
	p.breaks([]message.Msg{p.request(seedT, "t")}, api.ErrState)
	p.nobody()
}

// P21.1: several messages at once.
func TestTogether(t *testing.T) {
	p := connect(t, small(t))
	p.feeds(p.packets(service("ssh-userauth"), p.request(seedX, "t"), p.request(seedT, "t"), global("keepalive@openssh.com", "", true), global("?", "", true)),
		conn.Event{Kind: conn.In, Word: "t"}, conn.Event{Kind: conn.Beat, Want: true})
	p.sends(accept("ssh-userauth"), failure(), success(), say(82, nil))
}

// P21.1: requests with names, and the events that they are reported as.
func TestRequests(t *testing.T) {
	p := enter(t, small(t))
	kinds := map[string]int{"tcpip-forward": conn.Forward, "cancel-tcpip-forward": conn.Cancel}
	for name, kind := range kinds {
		for _, want := range []bool{false, true} {
			for _, alias := range []string{"web", "", "\x00\xff", "A b", strings.Repeat("x", 255), strings.Repeat("y", 32000)} {
				for _, port := range []uint32{0, 1, 80, 65536, 1<<32 - 1} {
					p.tell(global(name, text(alias)+u32(port), want), conn.Event{Kind: kind, Word: alias, Port: port, Want: want})
				}
			}
		}
	}
	p.sends()
}

// P21.1: heartbeats, whatever their rest is, and requests of other names.
func TestOtherRequests(t *testing.T) {
	p := enter(t, small(t))
	for _, rest := range []string{"", "x", text("web") + u32(1), strings.Repeat("x", 32000)} {
		for _, want := range []bool{false, true} {
			p.tell(global("keepalive@openssh.com", rest, want), conn.Event{Kind: conn.Beat, Want: want})
			p.sends()
			for _, name := range []string{"", "x", "tcpip-forward ", "TCPIP-FORWARD", "cancel-tcpip", "keepalive", "keepalive@openssh.com\x00", "streamlocal-forward@openssh.com"} {
				p.tell(global(name, rest, want))
				if want {
					p.sends(say(82, nil))
				}
				p.sends()
			}
		}
	}
}

// P21.1: the rest of a request that is no name and port.
func TestRequestErrors(t *testing.T) {
	rests := []struct {
		rest  string
		wrong error
	}{
		{"", api.ErrEnd},
		{"\x00\x00\x00", api.ErrEnd},
		{text(""), api.ErrEnd},
		{text("web"), api.ErrEnd},
		{text("web")[:6], api.ErrEnd},
		{text("web") + u32(80)[:3], api.ErrEnd},
		{text("web") + u32(80) + "\x00", api.ErrForm},
		{text("web") + text("web"), api.ErrForm},
		{u32(32769) + "web", api.ErrBig},
		{"\xff\xff\xff\xff" + "web" + u32(80), api.ErrBig},
	}
	for _, name := range []string{"tcpip-forward", "cancel-tcpip-forward"} {
		for _, test := range rests {
			for _, want := range []bool{false, true} {
				p := enter(t, small(t))
				p.breaks([]message.Msg{global(name, test.rest, want)}, test.wrong)
			}
		}
	}
}

// everyKind returns a message of each kind that a session passes on.
func everyKind(t *testing.T) map[int]message.Msg {
	t.Helper()
	l := map[int]message.Msg{}
	for kind := range 256 {
		fields, ok := message.Fields(kind)
		if !ok || kind < 5 || kind >= 20 && kind <= 31 {
			continue
		}
		m := message.Msg{Kind: kind}
		for i := range len(fields) {
			switch fields[i] {
			case 'u':
				m.U = append(m.U, 0)
			case 's', 'r':
				m.S = append(m.S, "x")
			case 'n':
				m.N = append(m.N, nil)
			case 'b':
				m.B = append(m.B, true)
			}
		}
		l[kind] = m
	}
	return l
}

// P21.1, P21.2: each kind of message, before an exchange with the service, before
// login and after it.
func TestKinds(t *testing.T) {
	before := map[int]error{5: api.ErrKind, 50: api.ErrState, 80: api.ErrState, 81: nil, 82: nil}
	after := map[int]error{5: api.ErrKind, 50: api.ErrState, 80: nil, 81: nil, 82: nil, 90: nil, 91: api.ErrNone, 92: api.ErrNone, 93: api.ErrNone, 94: api.ErrNone, 95: api.ErrNone, 96: api.ErrNone, 97: api.ErrNone, 98: api.ErrNone, 99: api.ErrNone, 100: api.ErrNone}
	for kind, m := range everyKind(t) {
		wrong, ok := before[kind]
		if !ok {
			wrong = api.ErrKind
		}
		if kind >= 90 && kind <= 100 {
			wrong = api.ErrState
		}
		checkKind(t, connect(t, small(t)), m, wrong)
		if kind == 50 {
			wrong = nil
		}
		checkKind(t, ask(t, small(t)), m, wrong)
		if wrong, ok = after[kind]; !ok {
			wrong = api.ErrKind
		}
		checkKind(t, enter(t, small(t)), m, wrong)
	}
}

// checkKind sends a message that leads to an error, or to an answer.
func checkKind(t *testing.T, p *pair, m message.Msg, wrong error) {
	t.Helper()
	answers := map[int]message.Msg{50: failure(), 80: say(82, nil), 90: say(92, numbers(0, 3), "", "")}
	if wrong != nil {
		p.breaks([]message.Msg{m}, wrong)
		return
	}
	p.tell(m)
	if answer, ok := answers[m.Kind]; ok {
		p.sends(answer)
	}
	p.sends()
}

// P21.2: before login a request is an error even if its rest is one as well.
func TestRequestBeforeLogin(t *testing.T) {
	for _, name := range []string{"tcpip-forward", "cancel-tcpip-forward", "keepalive@openssh.com", "x"} {
		for _, rest := range []string{"", text("web") + u32(80)} {
			p := ask(t, small(t))
			p.breaks([]message.Msg{global(name, rest, true)}, api.ErrState)
		}
	}
}

// P21.1: channels that are asked for.
func TestAsked(t *testing.T) {
	p := enter(t, small(t))
	for _, kind := range []string{"", "session", "forwarded-tcpip", "direct-tcpip ", "x11"} {
		p.tell(say(90, numbers(5, 9, 9), kind, dialing("web", 80)))
		p.sends(say(92, numbers(5, 3), "", ""))
	}
	good := dialing("web", 80)
	for n := range len(good) {
		p.tell(say(90, numbers(6, 9, 9), "direct-tcpip", good[:n]))
		p.sends(say(92, numbers(6, 1), "", ""))
	}
	for _, rest := range []string{good + "\x00", "\xff\xff\xff\xff" + good[4:], text("web") + u32(80) + "\xff\xff\xff\xff" + good[15:]} {
		p.tell(say(90, numbers(7, 9, 9), "direct-tcpip", rest))
		p.sends(say(92, numbers(7, 1), "", ""))
	}
	p.tell(say(90, numbers(8, 9, 9), "session", "x"))
	p.sends(say(92, numbers(8, 3), "", ""))
	for i, alias := range []string{"web", "", strings.Repeat("\xff", 32000)} {
		rest := text(alias) + u32(1<<32-1-uint32(i)) + text("") + u32(1<<32-1)
		p.tell(say(90, numbers(9, 9, 9), "direct-tcpip", rest), conn.Event{Kind: conn.Dial, Channel: i, Word: alias, Port: 1<<32 - 1 - uint32(i)})
	}
	p.tell(say(90, numbers(10, 9, 9), "direct-tcpip", good))
	p.sends(say(92, numbers(10, 4), "", ""))
}

// P21.1: all events of channels.
func TestEvents(t *testing.T) {
	p := enter(t, small(t))
	for i := range 3 {
		if n, err := p.c.Open("web", 80, i); n != i || err != nil {
			t.Fatalf("%d, %v", n, err)
		}
	}
	rest := text("web") + u32(80) + text("client")
	p.sends(say(90, numbers(0, 50, 20), "forwarded-tcpip", rest+u32(0)), say(90, numbers(1, 50, 20), "forwarded-tcpip", rest+u32(1)), say(90, numbers(2, 50, 20), "forwarded-tcpip", rest+u32(2)))
	p.tell(say(92, numbers(1, 77), "text", "en"), conn.Event{Kind: conn.Failed, Channel: 1, Reason: 77})
	p.tell(say(91, numbers(2, 12, 100, 30), ""), conn.Event{Kind: conn.Confirmed, Channel: 2})
	p.tell(say(90, numbers(40, 9, 9), "direct-tcpip", dialing("ssh", 22)), conn.Event{Kind: conn.Dial, Channel: 1, Word: "ssh", Port: 22})
	p.tell(say(93, numbers(2, 5)))
	p.tell(say(94, numbers(2), "bytes"), conn.Event{Kind: conn.Came, Channel: 2})
	p.tell(say(95, numbers(2, 1), "other bytes"))
	p.tell(message.Msg{Kind: 98, U: numbers(2), S: []string{"env", ""}, B: []bool{true}})
	p.tell(say(99, numbers(2)))
	p.tell(say(100, numbers(2)))
	p.tell(say(96, numbers(2)), conn.Event{Kind: conn.Ended, Channel: 2})
	p.tell(say(97, numbers(2)), conn.Event{Kind: conn.Closed, Channel: 2})
	p.sends(say(100, numbers(12)), say(97, numbers(12)))
	p.feeds(p.packets(say(91, numbers(0, 10, 1, 1), ""), say(94, numbers(0), "a"), say(96, numbers(0))),
		conn.Event{Kind: conn.Confirmed}, conn.Event{Kind: conn.Came}, conn.Event{Kind: conn.Ended})
	if err := p.c.Accept(1); err != nil {
		t.Fatal(err)
	}
	p.sends(say(91, numbers(40, 1, 50, 20), ""))
}

// P21.1, P21.3: errors of channels, after the events of the messages before them.
func TestChannelErrors(t *testing.T) {
	came := conn.Event{Kind: conn.Came}
	tests := []struct {
		l     []message.Msg
		wrong error
		want  []conn.Event
	}{
		{[]message.Msg{say(94, numbers(1), "x")}, api.ErrNone, nil},
		{[]message.Msg{say(91, numbers(0, 0, 1, 1), "")}, api.ErrState, nil},
		{[]message.Msg{say(92, numbers(0, 0), "", "")}, api.ErrState, nil},
		{[]message.Msg{say(94, numbers(0), strings.Repeat("x", 21))}, api.ErrWindow, nil},
		{[]message.Msg{say(94, numbers(0), strings.Repeat("x", 20)), say(94, numbers(0), strings.Repeat("x", 20)), say(94, numbers(0), strings.Repeat("x", 11))}, api.ErrWindow, []conn.Event{came, came}},
		{[]message.Msg{say(93, numbers(0, 1<<32-101))}, nil, nil},
		{[]message.Msg{say(93, numbers(0, 1<<32-100))}, api.ErrWindow, nil},
		{[]message.Msg{say(96, numbers(0)), say(94, numbers(0), "x")}, api.ErrState, []conn.Event{{Kind: conn.Ended}}},
		{[]message.Msg{say(97, numbers(0)), say(97, numbers(0))}, api.ErrState, []conn.Event{{Kind: conn.Closed}}},
		{[]message.Msg{say(90, numbers(0, 1, 1), "direct-tcpip", dialing("web", 80)), say(94, numbers(1), "x")}, api.ErrState, []conn.Event{{Kind: conn.Dial, Channel: 1, Word: "web", Port: 80}}},
	}
	for _, test := range tests {
		p := enter(t, small(t))
		p.tell(say(90, numbers(7, 100, 30), "direct-tcpip", dialing("web", 80)), conn.Event{Kind: conn.Dial, Word: "web", Port: 80})
		if err := p.c.Accept(0); err != nil {
			t.Fatal(err)
		}
		p.sends(say(91, numbers(7, 0, 50, 20), ""))
		if test.wrong == nil {
			p.feeds(p.packets(test.l...), test.want...)
			continue
		}
		p.breaks(test.l, test.wrong, test.want...)
	}
}
