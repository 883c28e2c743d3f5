package conn_test

import (
	"math"
	"strings"
	"testing"

	"speakeasy/api"
	"speakeasy/auth"
	"speakeasy/conn"
	"speakeasy/edsign"
	"speakeasy/message"
	"speakeasy/session"
	"speakeasy/store"
)

// P21.1: a new connection sends its version line and a kexinit, as a server, whether
// Client is true or not.
func TestNew(t *testing.T) {
	for _, client := range []bool{false, true} {
		c := small(t)
		c.Session.Client = client
		p := begin(t, c)
		p.nobody()
		if p.c.Gone() || p.c.Session() != (session.Vars{}) {
			t.Errorf("%v, %+v", p.c.Gone(), p.c.Session())
		}
		out := p.c.Out()
		line, rest, _ := strings.Cut(out, "\r\n")
		if out != p.twin.Out() || line != "SSH-2.0-srv" || len(rest) < 6 || rest[5] != 20 {
			t.Errorf("%q", out)
		}
		p.sends()
		p.guest.Feed(out)
		p.feeds(p.guest.Out()) // a client would have sent ecdh-init, and no reply
		p.sends()
		enter(t, c)
	}
}

// P21.1: the errors of a session's configuration.
func TestNewErrors(t *testing.T) {
	for _, software := range []string{"", "a-b", "a b", "\x00", strings.Repeat("x", 65)} {
		c := small(t)
		c.Session.Software = software
		if x, err := conn.New(c); x != nil || err != api.ErrArg {
			t.Errorf("%q: %v, %v", software, x, err)
		}
	}
	c := small(t)
	c.Session.Software = strings.Repeat("x", 64)
	if x, err := conn.New(c); x == nil || err != nil {
		t.Errorf("%v, %v", x, err)
	}
}

// P21.1: the session has the whole configuration: it begins a new exchange after
// Every packets.
func TestEvery(t *testing.T) {
	c := small(t)
	c.Session.Every = 3
	p := enter(t, c)
	for range 4 {
		p.tell(global("x", "", true))
		p.sends(say(82, nil))
		p.feeds(p.guest.Out())
		p.sends()
		p.feeds(p.guest.Out())
		p.sends()
	}
	if v := p.c.Session(); v.Kexes != 3 {
		t.Errorf("%+v", v)
	}
}

// P21.1: a zero Config permits what the layers below permit at least; no store is a
// store without keys.
func TestZero(t *testing.T) {
	p := ask(t, conn.Config{Session: session.Config{Software: "srv"}})
	p.tell(p.request(seedT, "t"))
	p.sends(failure())
	p.breaks([]message.Msg{p.request(seedT, "t")}, api.ErrAuth)
	p.nobody()
}

// P21.1: what is sent before the first exchange is complete waits for its end.
func TestAnswerEarly(t *testing.T) {
	p := begin(t, small(t))
	p.c.Answer(true, "early")
	p.c.Answer(false, "")
	p.sends(say(81, nil, "early"), say(82, nil))
	for range 3 {
		p.feeds(p.guest.Out())
		p.sends()
	}
	if v := p.c.Session(); !v.Open || v.Waits != 0 {
		t.Errorf("%+v", v)
	}
}

// P21.1: what Answer sends, at once; a failure has no rest, and a rest that no
// message can have is not sent.
func TestAnswer(t *testing.T) {
	p := enter(t, small(t))
	for _, rest := range []string{"", "x", "\x00\xff", strings.Repeat("x", 32767)} {
		p.c.Answer(true, rest)
		p.c.Answer(false, rest)
		p.sends(say(81, nil, rest), say(82, nil))
	}
	for _, n := range []int{32768, 32769, 100000} {
		p.c.Answer(true, strings.Repeat("x", n))
		p.sends()
	}
	p.c.Answer(false, strings.Repeat("x", 100000))
	p.sends(say(82, nil))
}

// P21.1: End sends a disconnect, at any time.
func TestEnd(t *testing.T) {
	for _, reason := range []uint32{0, 2, 11, 14, math.MaxUint32} {
		for i, create := range []func(*testing.T, conn.Config) *pair{begin, connect, ask, enter} {
			p := create(t, small(t))
			p.c.End(reason)
			p.twin.Close(reason, "")
			p.sends()
			p.over()
			if who, in := p.c.Who(); in != (i == 3) || in != (who == "t") {
				t.Errorf("%q, %v", who, in)
			}
		}
	}
}

// P21.1: the messages of the channels are sent as long as the connection is not
// gone, behind those that were sent before Out.
func TestOut(t *testing.T) {
	p := enter(t, small(t))
	if n, err := p.c.Open("web", 80, 7); n != 0 || err != nil {
		t.Fatalf("%d, %v", n, err)
	}
	p.c.Answer(false, "")
	rest := text("web") + u32(80) + text("client") + u32(7)
	p.sends(say(82, nil), say(90, numbers(0, 50, 20), "forwarded-tcpip", rest))
	p.sends()
	p.c.Open("web", 80, 7)
	p.c.Answer(true, "")
	p.c.End(3)
	p.twin.Send(say(81, nil, "").Bytes())
	p.twin.Close(3, "")
	p.sends()
	p.over()
}

// P21.1, P21.3: bytes with which the session itself fails.
func TestSessionErrors(t *testing.T) {
	tests := []struct {
		name   string
		create func(*testing.T, conn.Config) *pair
		bytes  func(p *pair) string
		wrong  error
		inner  []string
	}{
		{"another version", begin, func(*pair) string { return "SSH-1.0-x\r\n" }, api.ErrVersion, []string{"session"}},
		{"no version", begin, func(*pair) string { return "\x00\n" }, api.ErrForm, []string{"session"}},
		{"no length", connect, func(*pair) string { return strings.Repeat("\x00", 100) }, api.ErrForm, []string{"session", "packet"}},
		{"a changed bit", connect, func(p *pair) string {
			s := []byte(p.packets(service("ssh-userauth")))
			s[10] ^= 1
			return string(s)
		}, api.ErrMac, []string{"session", "packet"}},
		{"a changed bit after login", enter, func(p *pair) string {
			s := []byte(p.packets(global("x", "", false)))
			s[len(s)-1] ^= 1
			return string(s)
		}, api.ErrMac, []string{"session", "packet"}},
		{"a disconnect", connect, func(p *pair) string {
			p.guest.Close(11, "bye")
			return p.guest.Out()
		}, api.ErrGone, []string{"session"}},
		{"a disconnect after login", enter, func(p *pair) string {
			p.guest.Close(11, "bye")
			return p.guest.Out()
		}, api.ErrGone, []string{"session"}},
	}
	for _, test := range tests {
		t.Run(test.name, func(t *testing.T) {
			p := test.create(t, small(t))
			p.broken(test.bytes(p), test.wrong, test.inner)
		})
	}
}

// P21.1: with messages before an error of the session, the events come first; what
// these messages would be answered is discarded.
func TestSessionErrorLast(t *testing.T) {
	for _, wrong := range []error{api.ErrGone, api.ErrMac} {
		p := ask(t, small(t))
		s := p.packets(p.request(seedT, "t"), global("keepalive@openssh.com", "", true), global("x", "", true))
		inner := []string{"session"}
		if wrong == api.ErrMac {
			last := []byte(p.packets(global("x", "", true)))
			last[7] ^= 1
			s += string(last)
			inner = append(inner, "packet")
		} else {
			p.guest.Close(2, "")
			s += p.guest.Out()
		}
		p.broken(s, wrong, inner, conn.Event{Kind: conn.In, Word: "t"}, conn.Event{Kind: conn.Beat, Want: true})
		p.somebody("t")
	}
}

// P21.1, P21.3: an error of a message before an error of the session is the first
// one, and the session has sent the only disconnect.
func TestTwoErrors(t *testing.T) {
	for _, mac := range []bool{false, true} {
		p := enter(t, small(t))
		s := p.packets(global("keepalive@openssh.com", "", false), success(), global("keepalive@openssh.com", "", false))
		if mac {
			s += strings.Repeat("\xff", 64)
		} else {
			p.guest.Close(2, "")
			s += p.guest.Out()
		}
		p.broken(s, api.ErrKind, nil, conn.Event{Kind: conn.Beat})
	}
}

// P21.1: nothing behind an error is processed.
func TestFirstError(t *testing.T) {
	p := enter(t, small(t))
	beat := conn.Event{Kind: conn.Beat, Want: true}
	keep := global("keepalive@openssh.com", "", true)
	p.breaks([]message.Msg{keep, keep, global("tcpip-forward", "", true), keep, global("x", "", true)}, api.ErrEnd, beat, beat)
}

// P21.1: a connection has its own authentication: the id that is signed is that of
// the session, also after further exchanges.
func TestID(t *testing.T) {
	p := ask(t, small(t))
	if err := p.guest.Rekey(); err != nil {
		t.Fatal(err)
	}
	for range 3 {
		p.feeds(p.guest.Out())
		p.sends()
	}
	if v := p.c.Session(); v.Kexes != 2 {
		t.Fatalf("%+v", v)
	}
	p.tell(auth.Request([32]byte{9}, seedT, "t"))
	p.sends(failure())
	p.tell(p.request(seedT, "t"), conn.Event{Kind: conn.In, Word: "t"})
	p.sends(success())
}

// P21.1: keys that are added or revoked later count from then on.
func TestStore(t *testing.T) {
	c := small(t)
	c.Store = store.New(2, 2)
	p := ask(t, c)
	p.tell(p.request(seedX, "x"))
	p.sends(failure())
	c.Store.Add("x", edsign.Key(seedX))
	p.tell(p.request(seedX, "x"), conn.Event{Kind: conn.In, Word: "x"})
	p.somebody("x")
	c.Store.Revoke(edsign.Key(seedX))
	p.somebody("x")
}
