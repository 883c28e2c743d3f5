package peer_test

import (
	"math/rand"
	"slices"
	"strings"
	"testing"

	"speakeasy/api"
	"speakeasy/auth"
	"speakeasy/message"
	"speakeasy/mux"
	"speakeasy/peer"
	"speakeasy/wire"
)

// model is what the document says of a peer above its session.
type model struct {
	in      bool
	refused bool
	request message.Msg // to log in
	waiting []string
	asking  []int // the channels that were dialed
	mux     *mux.Mux
	sent    []message.Msg
}

func newModel(p *pair, c peer.Config) *model {
	return &model{request: auth.Request(p.relay.Vars().ID, c.Key, c.User), mux: mux.New(c.Mux)}
}

func (m *model) feed(x message.Msg) ([]peer.Event, error) {
	if 90 <= x.Kind && x.Kind <= 100 {
		if !m.in {
			return nil, api.ErrState
		}
		return m.channels(x)
	}
	switch x.Kind {
	case 6:
		m.sent = append(m.sent, m.request)
	case 51:
		m.refused = true
		return []peer.Event{{Kind: 2}, {Kind: 11}}, nil
	case 52:
		m.in = true
		return []peer.Event{{Kind: 1}}, nil
	case 80:
		if x.B[0] {
			m.sent = append(m.sent, no())
		}
	case 81, 82:
		if len(m.waiting) == 0 {
			return nil, api.ErrState
		}
		word := m.waiting[0]
		m.waiting = m.waiting[1:]
		return []peer.Event{{Kind: x.Kind - 81 + 3, Word: word}}, nil
	case 53, 60:
	default:
		return nil, api.ErrKind
	}
	return nil, nil
}

func (m *model) channels(x message.Msg) ([]peer.Event, error) {
	l, err := m.mux.Handle(x)
	if err != nil || len(l) == 0 {
		return nil, err
	}
	e := l[0]
	if e.Kind != 1 {
		return []peer.Event{{Kind: e.Kind + 4, Channel: e.Channel, Reason: e.Reason}}, nil
	}
	i := wire.Of(e.Text)
	alias, port, _, _ := i.Text(32768), i.U32(), i.Text(32768), i.U32()
	if e.Word != "forwarded-tcpip" {
		return nil, m.mux.Reject(e.Channel, 3, "")
	}
	if i.End() != nil {
		return nil, m.mux.Reject(e.Channel, 1, "")
	}
	return []peer.Event{{Kind: 5, Channel: e.Channel, Word: alias, Port: port}}, nil
}

// flush returns what is to be sent.
func (m *model) flush() []message.Msg {
	l := m.sent
	m.sent = nil
	if m.in {
		l = append(l, m.mux.Flush()...)
	}
	return l
}

// opened returns the numbers of the channels that are open.
func (m *model) opened() []int {
	return slices.DeleteFunc(m.mux.Channels(), func(n int) bool {
		_, err := m.mux.Read(n, 0)
		return err != nil
	})
}

// pick returns a random message, which is seldom an error.
func pick(source *rand.Rand, m *model) message.Msg {
	some := func(l ...string) string { return l[source.Intn(len(l))] }
	n := uint32(source.Intn(3))
	switch source.Intn(60) {
	case 0:
		return failure()
	case 1:
		return either(source, service(), say(50, nil, "t", "", "", ""), say(94, numbers(n), "x"), say(92, numbers(n, 7), "", ""), yes("x"))
	case 2, 3, 4:
		return say(53, nil, some("", "hello"), "")
	case 5, 6:
		return accept()
	case 7, 8, 9, 10, 11:
		return global(some("x", "tcpip-forward"), "", source.Intn(2) == 0)
	}
	if !m.in {
		return either(source, success(), accept(), say(60, nil, "", ""))
	}
	if len(m.waiting) > 0 && source.Intn(3) == 0 {
		return either(source, yes(""), no())
	}
	if len(m.asking) > 0 && source.Intn(3) == 0 {
		first := uint32(m.asking[0])
		m.asking = m.asking[1:]
		return either(source, say(91, numbers(first, n, uint32(source.Intn(60)), 10), ""), say(92, numbers(first, n), "", ""))
	}
	rest := text(some("web", "ssh", "")) + u32(n) + text("client") + u32(n)
	open := m.opened()
	if len(open) == 0 || source.Intn(4) == 0 {
		return say(90, numbers(n, uint32(source.Intn(60)), uint32(source.Intn(20))), some("forwarded-tcpip", "forwarded-tcpip", "forwarded-tcpip", "x"), rest[:len(rest)-source.Intn(2)*source.Intn(2)])
	}
	n = uint32(open[source.Intn(len(open))])
	switch source.Intn(20) {
	case 0:
		return say(96, numbers(n))
	case 1:
		return say(97, numbers(n))
	case 2, 3, 4, 5, 6:
		return say(93, numbers(n, uint32(source.Intn(30))))
	case 7, 8, 9, 10, 11, 12, 13:
		return message.Msg{Kind: 98, U: numbers(n), S: []string{"env", ""}, B: []bool{source.Intn(2) == 0}}
	}
	return say(94, numbers(n), strings.Repeat("x", source.Intn(9)))
}

func either(source *rand.Rand, l ...message.Msg) message.Msg { return l[source.Intn(len(l))] }

// do performs a random call at the peer and at the model.
func do(p *pair, m *model, source *rand.Rand) {
	p.Helper()
	n := source.Intn(4)
	var got, want error
	switch source.Intn(18) {
	case 0:
		x, none := 0, error(api.ErrState)
		if m.in {
			x, none = m.mux.Open("direct-tcpip", text("web")+u32(uint32(n))+text("peer")+u32(0))
		}
		y, err := p.Dial("web", uint32(n))
		got, want = err, none
		if x != y {
			p.Fatalf("Dial: %d, not %d", y, x)
		}
		if err == nil {
			m.asking = append(m.asking, y)
		}
	case 1, 2:
		got, want = p.Accept(n), m.mux.Accept(n)
	case 3:
		got, want = p.Reject(n, 9), m.mux.Reject(n, 9, "")
	case 4, 5:
		s := strings.Repeat("y", source.Intn(30))
		got, want = p.Write(n, s), m.mux.Write(n, s)
	case 6:
		got, want = p.EOF(n), m.mux.EOF(n)
	case 7:
		got, want = p.Close(n), m.mux.Close(n)
	case 8:
		got, want = p.Forward("web", uint32(n)), m.ask("web", global("tcpip-forward", text("web")+u32(uint32(n)), true))
	case 9:
		got, want = p.Cancel("ssh", uint32(n)), m.ask("ssh", global("cancel-tcpip-forward", text("ssh")+u32(uint32(n)), true))
	case 10:
		got, want = p.Beat(), m.ask("", global("keepalive@openssh.com", "", true))
	default:
		most := source.Intn(30)
		x, err := p.Read(n, most)
		y, none := m.mux.Read(n, most)
		got, want = err, none
		if x != y {
			p.Fatalf("Read: %q, not %q", x, y)
		}
	}
	if got != want {
		p.Fatalf("%v, not %v", got, want)
	}
}

func (m *model) ask(word string, x message.Msg) error {
	if !m.in {
		return api.ErrState
	}
	m.waiting = append(m.waiting, word)
	m.sent = append(m.sent, x)
	return nil
}

// step lets the relay send a message, or performs a call. It reports whether the peer
// goes on.
func step(p *pair, m *model, source *rand.Rand) bool {
	p.Helper()
	switch source.Intn(4) {
	case 0:
		do(p, m, source)
		return true
	case 1:
		p.sends(m.flush()...)
		return true
	}
	x := pick(source, m)
	want, wrong := m.feed(x)
	if wrong != nil {
		p.twinSends(m.sent...)
		p.breaks([]message.Msg{x}, wrong, want...)
		return false
	}
	p.tell(x, want...)
	if m.refused {
		p.twinSends(m.sent...)
		p.twin.Close(14, "")
		p.sends()
		p.over()
		return false
	}
	return true
}

// P23.1: any messages and calls, compared with the model up to the end.
func TestRandom(t *testing.T) {
	source := rand.New(rand.NewSource(23))
	entered, ended, refused := 0, 0, 0
	for range 200 {
		c := small()
		p := connect(t, c)
		m := newModel(p, c)
		for range 60 {
			if !step(p, m, source) {
				ended++
				break
			}
			p.is(m.in, false)
			for n := range 4 {
				a, b := m.mux.Waits(n)
				p.waits(n, a, b)
			}
			if l := p.Channels(); !slices.Equal(l, m.mux.Channels()) {
				t.Fatalf("channels %v, not %v", l, m.mux.Channels())
			}
		}
		if m.in {
			entered++
		}
		if m.refused {
			refused++
		}
	}
	if entered < 100 || ended < 100 || ended > 190 || refused < 20 || refused > ended-20 {
		t.Errorf("%d were in, %d ended, %d refused", entered, ended, refused)
	}
}

// P23.1: any bytes, and the bytes of a relay with changes, have at most one Gone,
// which is the last event, after which nothing is sent.
func TestAnyBytes(t *testing.T) {
	source := rand.New(rand.NewSource(5))
	p := connect(t, small())
	good := p.fed + p.packets(accept(), success(), asks(1, "web"), global("x", "", true))
	gone := 0
	for range 400 {
		s := []byte(good)
		switch at := source.Intn(len(s)); source.Intn(4) {
		case 0:
			s[at] ^= 1 << source.Intn(8)
		case 1:
			s = append(s[:at:at], s[at+1:]...)
		case 2:
			s = append(s[:at:at], s[at-source.Intn(at+1):]...)
		case 3:
			source.Read(s[at:])
		}
		x := peer.New(small())
		for len(s) > 0 && !x.Gone() {
			n := 1 + source.Intn(len(s))
			events, err := x.Feed(string(s[:n]))
			s = s[n:]
			at := slices.Index(events, peer.Event{Kind: peer.Gone})
			if x.Gone() != (err != nil) || x.Gone() != (at >= 0) || at >= 0 && at != len(events)-1 || err != nil && api.Where(err) != "peer" {
				t.Fatalf("%+v, %v, %v", events, err, x.Gone())
			}
		}
		if x.Gone() {
			gone++
			x.Out()
		}
		x.Beat()
		if out := x.Out(); x.Gone() && out != "" {
			t.Fatalf("%q", out)
		}
	}
	if gone < 150 || gone == 400 {
		t.Errorf("%d of 400 were gone", gone)
	}
}
