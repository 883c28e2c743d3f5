package peer_test

import (
	"math"
	"slices"
	"strings"
	"testing"

	"speakeasy/api"
	"speakeasy/auth"
	"speakeasy/edsign"
	"speakeasy/message"
	"speakeasy/peer"
)

// P23.1: a new peer sends its version line and a kexinit, as a client, and nothing
// else.
func TestNew(t *testing.T) {
	for _, seed := range []string{"", "seed", "\x00\xff", strings.Repeat("x", 1000)} {
		c := small()
		c.Seed = seed
		p := begin(t, c)
		p.is(false, false)
		if p.ID() != [32]byte{} || len(p.Channels()) != 0 {
			t.Errorf("%x, %v", p.ID(), p.Channels())
		}
		out := p.Out()
		line, rest, _ := strings.Cut(out, "\r\n")
		if out != p.twin.Out() || line != "SSH-2.0-peer" || len(rest) < 6 || rest[5] != 20 {
			t.Errorf("%q", out)
		}
		p.sends()
		p.refuses(api.ErrState)
		p.sends()
	}
}

// P23.1: the service is requested as soon as the first exchange is complete, and not
// again after others.
func TestService(t *testing.T) {
	p := connect(t, small())
	if want := []string{service().Bytes()}; !slices.Equal(p.got, want) {
		t.Fatalf("%q, not %q", p.got, want)
	}
	p.is(false, false)
	p.refuses(api.ErrState)
	for range 2 {
		if err := p.relay.Rekey(); err != nil {
			t.Fatal(err)
		}
		for range 3 {
			p.feeds(p.relay.Out())
			p.sends()
		}
	}
	if v := p.relay.Vars(); v.Kexes != 3 || len(p.got) != 1 {
		t.Errorf("%+v, %q", v, p.got)
	}
}

// P23.1: the service is requested even if the bytes that complete the exchange also
// end the session, however they are divided.
func TestServiceAtOnce(t *testing.T) {
	for _, size := range []int{1, 100, 10000} {
		p := begin(t, small())
		p.sends()
		p.feeds(p.relay.Out())
		p.sends()
		last := p.relay.Out()
		p.relay.Close(11, "")
		last += p.relay.Out()
		for len(last) > size {
			p.feeds(last[:size])
			last = last[size:]
		}
		p.broken(last, api.ErrGone, []string{"session"})
		if !p.twin.Vars().Gone || p.ID() == [32]byte{} {
			t.Errorf("%+v", p.twin.Vars())
		}
	}
}

// P23.1: each service-accept is followed by a request to log in, whatever its name
// is, before login and after it.
func TestLogIn(t *testing.T) {
	for _, user := range []string{"t", "", "A user\x00\xff", strings.Repeat("x", 30000)} {
		for _, key := range [][32]byte{own, {}, {31: 255}} {
			c := small()
			c.User, c.Key = user, key
			p := connect(t, c)
			want := auth.Request(p.relay.Vars().ID, key, user)
			for _, name := range []string{"ssh-userauth", "ssh-connection", ""} {
				p.tell(say(6, nil, name))
				p.is(false, false)
				p.sends(want)
			}
			p.tell(success(), peer.Event{Kind: peer.In})
			p.tell(accept())
			p.is(true, false)
			p.sends(want)
		}
	}
}

// P23.1: the id in the request is that of the session, also after other exchanges.
func TestID(t *testing.T) {
	p := connect(t, small())
	id := p.ID()
	if err := p.Rekey(); err != nil {
		t.Fatal(err)
	}
	p.twin.Rekey()
	for range 3 {
		p.sends()
		p.feeds(p.relay.Out())
	}
	if v := p.relay.Vars(); v.Kexes != 2 || p.ID() != id || id == [32]byte{} || id != v.ID {
		t.Fatalf("%+v, %x", v, id)
	}
	p.tell(accept())
	p.sends(auth.Request(id, own, "t"))
}

// P23.1, P23.2: a user whose name is too long for a request is not logged in, and
// the peer does not wait for an answer.
func TestLongUser(t *testing.T) {
	longest := 32768 - len(auth.Request([32]byte{}, own, "").Bytes())
	for _, n := range []int{longest - 1, longest} {
		c := small()
		c.User = strings.Repeat("x", n)
		enter(t, c)
	}
	for _, n := range []int{longest + 1, 32768, 32769, 100000} {
		c := small()
		c.User = strings.Repeat("x", n)
		p := connect(t, c)
		p.breaks([]message.Msg{accept(), success()}, api.ErrBig)
	}
}

// P23.1: auth-success is a login at any time, also a second one.
func TestSuccess(t *testing.T) {
	in := peer.Event{Kind: peer.In}
	for _, create := range stages()[1:] {
		p := create(t, small())
		p.feeds(p.packets(success(), success()), in, in)
		p.is(true, false)
		p.sends()
		if err := p.Beat(); err != nil {
			t.Error(err)
		}
		p.sends(global("keepalive@openssh.com", "", true))
	}
}

// P23.1: auth-failure ends the peer at any time, without an error. Nothing behind it
// is processed.
func TestRefused(t *testing.T) {
	failures := []message.Msg{failure(), {Kind: 51, N: [][]string{nil}, B: []bool{true}}, {Kind: 51, N: [][]string{{"password", "publickey"}}, B: []bool{false}}}
	behind := [][]message.Msg{nil, {success()}, {failure()}, {say(5, nil, "x")}, {global("x", "", true), accept()}}
	for _, create := range stages()[1:] {
		for i, l := range behind {
			p := create(t, small())
			p.feeds(p.packets(append([]message.Msg{failures[i%len(failures)]}, l...)...), peer.Event{Kind: peer.Refused}, peer.Event{Kind: peer.Gone})
			p.twin.Close(14, "")
			p.sends()
			p.over()
		}
	}
}

// P23.1: an error of the session behind an auth-failure is none of the peer, which is
// gone already; the session has sent its disconnect.
func TestRefusedBeforeError(t *testing.T) {
	for _, mac := range []bool{false, true} {
		p := ask(t, small())
		s := p.packets(global("x", "", true), failure())
		if mac {
			s += strings.Repeat("\xff", 64)
		} else {
			p.relay.Close(2, "")
			s += p.relay.Out()
		}
		p.feeds(s, peer.Event{Kind: peer.Refused}, peer.Event{Kind: peer.Gone})
		p.sends()
		p.over()
	}
}

// P23.1: bytes with which the session itself fails.
func TestSessionErrors(t *testing.T) {
	bend := func(p *pair, at int) string {
		s := []byte(p.packets(global("x", "", false)))
		s[(len(s)+at)%len(s)] ^= 1
		return string(s)
	}
	bye := func(p *pair) string {
		p.relay.Close(11, "bye")
		return p.relay.Out()
	}
	tests := []struct {
		name   string
		create func(*testing.T, peer.Config) *pair
		bytes  func(p *pair) string
		wrong  error
		inner  []string
	}{
		{"another version", begin, func(*pair) string { return "SSH-1.0-x\r\n" }, api.ErrVersion, []string{"session"}},
		{"no version", begin, func(*pair) string { return "\x00\n" }, api.ErrForm, []string{"session"}},
		{"no length", connect, func(*pair) string { return strings.Repeat("\x00", 100) }, api.ErrForm, []string{"session", "packet"}},
		{"a changed bit", connect, func(p *pair) string { return bend(p, 10) }, api.ErrMac, []string{"session", "packet"}},
		{"a changed bit after login", enter, func(p *pair) string { return bend(p, -1) }, api.ErrMac, []string{"session", "packet"}},
		{"a disconnect", connect, bye, api.ErrGone, []string{"session"}},
		{"a disconnect after login", enter, bye, api.ErrGone, []string{"session"}},
	}
	for _, test := range tests {
		t.Run(test.name, func(t *testing.T) {
			p := test.create(t, small())
			p.broken(test.bytes(p), test.wrong, test.inner)
		})
	}
}

// P23.1, P23.2: another host key than the one that the peer expects.
func TestPin(t *testing.T) {
	for _, pin := range [][32]byte{{}, host, edsign.Key(own)} {
		c := small()
		c.Pin = pin
		p := begin(t, c)
		p.sends()
		p.feeds(p.relay.Out())
		p.sends()
		p.broken(p.relay.Out(), api.ErrHost, []string{"session"})
		if p.ID() != [32]byte{} || len(p.got) != 0 {
			t.Errorf("%x, %q", p.ID(), p.got)
		}
	}
}

// P23.1: with messages before an error of the session, the events come first; what
// these messages would be answered is discarded.
func TestSessionErrorLast(t *testing.T) {
	for _, wrong := range []error{api.ErrGone, api.ErrMac} {
		p := ask(t, small())
		s := p.packets(success(), accept(), global("x", "", true), say(53, nil, "", ""), say(90, numbers(1, 1, 1), "x", ""), asks(2, "web"))
		inner := []string{"session"}
		if wrong == api.ErrMac {
			last := []byte(p.packets(global("x", "", true)))
			last[7] ^= 1
			s += string(last)
			inner = append(inner, "packet")
		} else {
			p.relay.Close(2, "")
			s += p.relay.Out()
		}
		p.broken(s, wrong, inner, peer.Event{Kind: peer.In}, peer.Event{Kind: peer.Asked, Word: "web", Port: 80})
	}
}

// P23.1: an error of a message before an error of the session is the first one, and
// the session has sent the only disconnect.
func TestTwoErrors(t *testing.T) {
	for _, mac := range []bool{false, true} {
		p := enter(t, small())
		s := p.packets(asks(1, "web"), yes(""), asks(2, "web"))
		if mac {
			s += strings.Repeat("\xff", 64)
		} else {
			p.relay.Close(2, "")
			s += p.relay.Out()
		}
		p.broken(s, api.ErrState, nil, peer.Event{Kind: peer.Asked, Word: "web", Port: 80})
	}
}

// P23.1: nothing behind an error is processed.
func TestFirstError(t *testing.T) {
	p := enter(t, small())
	p.breaks([]message.Msg{asks(1, "web"), asks(2, "ssh"), service(), asks(3, "web"), global("x", "", true), failure()}, api.ErrKind,
		peer.Event{Kind: peer.Asked, Word: "web", Port: 80}, peer.Event{Kind: peer.Asked, Channel: 1, Word: "ssh", Port: 80})
	if l := p.Channels(); !slices.Equal(l, []int{0, 1}) {
		t.Errorf("%v", l)
	}
}

// P23.1: End sends a disconnect, at any time.
func TestEnd(t *testing.T) {
	for _, reason := range []uint32{0, 2, 11, 14, math.MaxUint32} {
		for _, create := range stages() {
			p := create(t, small())
			p.End(reason)
			p.is(false, true)
			p.twin.Close(reason, "")
			p.sends()
			p.over()
		}
	}
}

// P23.1: Rekey is that of the session.
func TestRekey(t *testing.T) {
	p := begin(t, small())
	for _, err := range []error{p.Rekey(), p.Rekey()} {
		if err != api.ErrState {
			t.Errorf("%v", err)
		}
	}
	p.sends()
	for i, create := range stages()[1:] {
		p := create(t, small())
		if err := p.Rekey(); err != nil {
			t.Fatal(err)
		}
		if err := p.Rekey(); err != api.ErrState {
			t.Errorf("%v", err)
		}
		p.twin.Rekey()
		p.is(i == 2, false)
		for range 3 {
			p.sends()
			p.feeds(p.relay.Out())
		}
		if v := p.relay.Vars(); v.Kexes != 2 || !v.Open {
			t.Errorf("%+v", v)
		}
	}
}

// P23.1: a peer does not exchange keys again unless it is told to.
func TestNoExchange(t *testing.T) {
	p := enter(t, small())
	for range 5000 {
		if err := p.Beat(); err != nil {
			t.Fatal(err)
		}
		p.twinSends(global("keepalive@openssh.com", "", true))
	}
	p.sends()
	if v := p.relay.Vars(); v.Kexes != 1 || !v.Open {
		t.Errorf("%+v", v)
	}
}

// P23.1: what is sent during an exchange waits for its end, in order.
func TestDuringExchange(t *testing.T) {
	p := enter(t, small())
	p.Rekey()
	p.twin.Rekey()
	if n, err := p.Dial("web", 80); n != 0 || err != nil {
		t.Fatal(n, err)
	}
	if p.Forward("a", 1) != nil || p.Beat() != nil {
		t.Fatal("an error")
	}
	p.sends(global("tcpip-forward", text("a")+u32(1), true), global("keepalive@openssh.com", "", true), dials(0, "web", 80))
	if len(p.got) != 2 {
		t.Fatalf("%q", p.got)
	}
	for range 3 {
		p.feeds(p.relay.Out())
		p.sends()
	}
	want := []string{global("tcpip-forward", text("a")+u32(1), true).Bytes(), global("keepalive@openssh.com", "", true).Bytes(), dials(0, "web", 80).Bytes()}
	if !slices.Equal(p.got[2:], want) {
		t.Errorf("%q, not %q", p.got[2:], want)
	}
}

// P23.1: the messages of the channels are sent while the peer is logged in and not
// gone, behind those that were sent before Out.
func TestOut(t *testing.T) {
	p := enter(t, small())
	if n, err := p.Dial("web", 80); n != 0 || err != nil {
		t.Fatal(n, err)
	}
	if err := p.Beat(); err != nil {
		t.Fatal(err)
	}
	p.sends(global("keepalive@openssh.com", "", true), dials(0, "web", 80))
	p.sends()
	p.Dial("ssh", 22)
	p.Cancel("web", 80)
	p.End(3)
	p.twinSends(global("cancel-tcpip-forward", text("web")+u32(80), true))
	p.twin.Close(3, "")
	p.sends()
	p.over()
}

// told is all that a peer has reported and sent.
type told struct {
	events []peer.Event
	out    string
	wrong  int
	in     bool
	id     [32]byte
}

func replay(c peer.Config, s string, ends ...int) told {
	p, fed, r := peer.New(c), 0, told{}
	for _, end := range append(ends, len(s)) {
		events, err := p.Feed(s[fed:end])
		fed = end
		r.events = append(r.events, events...)
		r.in = r.in || p.In()
		if err != nil || p.Gone() {
			r.wrong = api.Code(err)
			break
		}
	}
	r.out, r.id = p.Out(), p.ID()
	return r
}

// P23.1: what a peer does is the same for each division of the bytes, and for each
// repetition.
func TestDivisions(t *testing.T) {
	for _, last := range []message.Msg{asks(3, "web"), yes(""), failure(), service(), say(94, numbers(0), "x")} {
		c := small()
		p := connect(t, c)
		s := p.fed + p.packets(say(53, nil, "hello", ""), accept(), global("x", "", true), success(), asks(1, "web"), say(90, numbers(2, 1, 1), "x", ""), last)
		want := replay(c, s)
		if len(want.events) < 3 || !want.in && last.Kind == 90 || (want.wrong == 0) != (last.Kind == 90 || last.Kind == 51) {
			t.Fatalf("%+v", want)
		}
		for at := 0; at < len(s); at += 7 {
			got := replay(c, s, at, min(at+at*31%90, len(s)))
			if got.wrong != want.wrong || got.out != want.out || got.id != want.id || !slices.Equal(got.events, want.events) {
				t.Fatalf("divided at %d: %.300v, not %.300v", at, got, want)
			}
		}
	}
}

// P23.1: two peers of one configuration share nothing.
func TestTwoPeers(t *testing.T) {
	a, b := enter(t, small()), connect(t, small())
	a.Dial("web", 80)
	a.Beat()
	b.is(false, false)
	b.refuses(api.ErrState)
	b.sends()
	b.breaks([]message.Msg{yes("")}, api.ErrState)
	a.tell(yes(""), peer.Event{Kind: peer.Granted})
	a.sends(global("keepalive@openssh.com", "", true), dials(0, "web", 80))
}

// P23.1: the random values are those of the seed.
func TestSeeds(t *testing.T) {
	c, d := small(), small()
	d.Seed = "another"
	if peer.New(c).Out() == peer.New(d).Out() || peer.New(c).Out() != peer.New(c).Out() {
		t.Error("other random values")
	}
}
