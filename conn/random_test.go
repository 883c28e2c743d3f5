package conn_test

import (
	"math/rand"
	"slices"
	"strings"
	"testing"

	"speakeasy/api"
	"speakeasy/auth"
	"speakeasy/conn"
	"speakeasy/message"
	"speakeasy/mux"
	"speakeasy/wire"
)

// model is what the document says of a connection above its session.
type model struct {
	auth *auth.Server
	mux  *mux.Mux
	sent []message.Msg
}

func newModel(p *pair, c conn.Config) *model {
	return &model{auth: auth.New(c.Store, p.guest.Vars().ID, c.Tries), mux: mux.New(c.Mux)}
}

func (m *model) feed(x message.Msg) ([]conn.Event, error) {
	tenant, _, in := m.auth.In()
	switch {
	case x.Kind == 5:
		reply, err := m.auth.Service(x)
		if err == nil {
			m.sent = append(m.sent, reply)
		}
		return nil, err
	case x.Kind == 50:
		reply, err := m.auth.Handle(x)
		if err == nil {
			m.sent = append(m.sent, reply)
		}
		if tenant, _, in = m.auth.In(); in && err == nil {
			return []conn.Event{{Kind: 1, Word: tenant}}, nil
		}
		return nil, err
	case x.Kind == 81 || x.Kind == 82:
		return nil, nil
	case x.Kind != 80 && (x.Kind < 90 || x.Kind > 100):
		return nil, api.ErrKind
	case !in:
		return nil, api.ErrState
	case x.Kind == 80:
		return m.request(x)
	}
	return m.channels(x)
}

func (m *model) request(x message.Msg) ([]conn.Event, error) {
	kind := map[string]int{"tcpip-forward": 2, "cancel-tcpip-forward": 3, "keepalive@openssh.com": 4}[x.S[0]]
	e := conn.Event{Kind: kind, Want: x.B[0]}
	if kind == 0 {
		if x.B[0] {
			m.sent = append(m.sent, say(82, nil))
		}
		return nil, nil
	}
	if kind != 4 {
		i := wire.Of(x.S[1])
		e.Word, e.Port = i.Text(32768), i.U32()
		if i.End() != nil {
			return nil, i.End()
		}
	}
	return []conn.Event{e}, nil
}

func (m *model) channels(x message.Msg) ([]conn.Event, error) {
	l, err := m.mux.Handle(x)
	if err != nil || len(l) == 0 {
		return nil, err
	}
	e := l[0]
	if e.Kind != 1 {
		return []conn.Event{{Kind: e.Kind + 4, Channel: e.Channel, Reason: e.Reason}}, nil
	}
	i := wire.Of(e.Text)
	alias, port, _, _ := i.Text(32768), i.U32(), i.Text(32768), i.U32()
	if e.Word != "direct-tcpip" {
		return nil, m.mux.Reject(e.Channel, 3, "")
	}
	if i.End() != nil {
		return nil, m.mux.Reject(e.Channel, 1, "")
	}
	return []conn.Event{{Kind: 5, Channel: e.Channel, Word: alias, Port: port}}, nil
}

// flush returns what is to be sent.
func (m *model) flush() []message.Msg {
	l := m.sent
	m.sent = nil
	if _, _, in := m.auth.In(); in {
		l = append(l, m.mux.Flush()...)
	}
	return l
}

// opened returns the numbers of the channels that are open.
func (m *model) opened() []int {
	return slices.DeleteFunc(m.mux.Channels(), func(n int) bool {
		_, err := m.mux.Read(n, 0)
		return err != nil
	})
}

// pick returns a random message, which is seldom an error.
func pick(source *rand.Rand, p *pair, m *model) message.Msg {
	some := func(l ...string) string { return l[source.Intn(len(l))] }
	if _, _, in := m.auth.In(); !in {
		switch source.Intn(20) {
		case 0:
			return service(some("ssh-userauth", "ssh-connection"))
		case 1, 2, 3, 4, 5:
			return p.request(seedX, some("t", "x"))
		case 6, 7, 8, 9, 10, 11, 12, 13:
			return p.request(seedT, "t")
		case 14, 15, 16, 17:
			return service("ssh-userauth")
		}
		return say(81, nil, "")
	}
	n := uint32(source.Intn(3))
	if source.Intn(50) == 0 {
		return anything(source, p, n)
	}
	rest := text(some("web", "ssh", "")) + u32(n)
	if source.Intn(3) == 0 {
		return global(some("tcpip-forward", "cancel-tcpip-forward", "keepalive@openssh.com", "x"), rest, source.Intn(2) == 0)
	}
	open := m.opened()
	if len(open) == 0 || source.Intn(4) == 0 {
		rest += text("there") + u32(n)
		return say(90, numbers(n, uint32(source.Intn(60)), uint32(source.Intn(20))), some("direct-tcpip", "direct-tcpip", "direct-tcpip", "x"), rest[:len(rest)-source.Intn(2)*source.Intn(2)])
	}
	n = uint32(open[source.Intn(len(open))])
	switch source.Intn(20) {
	case 0:
		return say(96, numbers(n))
	case 1:
		return say(97, numbers(n))
	case 2, 3, 4, 5, 6:
		return say(93, numbers(n, uint32(source.Intn(30))))
	case 7, 8, 9, 10, 11, 12, 13:
		return message.Msg{Kind: 98, U: numbers(n), S: []string{"env", ""}, B: []bool{source.Intn(2) == 0}}
	}
	return say(94, numbers(n), strings.Repeat("x", source.Intn(9)))
}

// anything returns a message that is an error more often than not.
func anything(source *rand.Rand, p *pair, n uint32) message.Msg {
	switch source.Intn(8) {
	case 0:
		return success()
	case 1:
		return service("ssh-connection")
	case 2:
		return p.request(seedT, "t")
	case 3:
		return global("tcpip-forward", "", true)
	case 4:
		return say(94, numbers(n), "x")
	case 5:
		return say(92, numbers(n, 7), "", "")
	}
	return say(91, numbers(n, n, uint32(source.Intn(60)), 10), "")
}

// do performs a random call at the connection and at the model.
func do(p *pair, m *model, source *rand.Rand) {
	p.Helper()
	n := source.Intn(4)
	var got, want error
	switch source.Intn(14) {
	case 0:
		x, none := 0, error(api.ErrState)
		if _, _, in := m.auth.In(); in {
			x, none = m.mux.Open("forwarded-tcpip", text("web")+u32(80)+text("client")+u32(uint32(n)))
		}
		y, err := p.c.Open("web", 80, n)
		got, want = err, none
		if x != y {
			p.Fatalf("Open: %d, not %d", y, x)
		}
	case 1, 2:
		got, want = p.c.Accept(n), m.mux.Accept(n)
	case 3:
		got, want = p.c.Reject(n, 9), m.mux.Reject(n, 9, "")
	case 4, 5:
		s := strings.Repeat("y", source.Intn(30))
		got, want = p.c.Write(n, s), m.mux.Write(n, s)
	case 6:
		got, want = p.c.EOF(n), m.mux.EOF(n)
	case 7:
		got, want = p.c.Close(n), m.mux.Close(n)
	default:
		most := source.Intn(30)
		x, err := p.c.Read(n, most)
		y, none := m.mux.Read(n, most)
		got, want = err, none
		if x != y {
			p.Fatalf("Read: %q, not %q", x, y)
		}
	}
	if got != want {
		p.Fatalf("%v, not %v", got, want)
	}
}

// P21.1, P21.2, P21.3: any messages and calls, compared with the model up to the
// first error.
func TestRandom(t *testing.T) {
	source := rand.New(rand.NewSource(21))
	entered, errors := 0, 0
	for range 200 {
		c := small(t)
		p := connect(t, c)
		m := newModel(p, c)
		if source.Intn(4) > 0 { // otherwise most requests to log in are an error
			p.tell(service("ssh-userauth"))
			m.feed(service("ssh-userauth"))
		}
		for range 60 {
			if !step(p, m, source) {
				errors++
				break
			}
			check(p, m)
		}
		if _, _, in := m.auth.In(); in {
			entered++
		}
	}
	if entered < 100 || errors < 100 || errors > 190 {
		t.Errorf("%d were in, %d ended with an error", entered, errors)
	}
}

// step lets the guest send a message, or performs a call. It reports whether there
// was no error.
func step(p *pair, m *model, source *rand.Rand) bool {
	p.Helper()
	switch source.Intn(4) {
	case 0:
		do(p, m, source)
		return true
	case 1:
		p.sends(m.flush()...)
		return true
	}
	x := pick(source, p, m)
	want, wrong := m.feed(x)
	if wrong == nil {
		p.tell(x, want...)
		return true
	}
	for _, reply := range m.sent {
		p.twin.Send(reply.Bytes())
	}
	p.breaks([]message.Msg{x}, wrong, want...)
	return false
}

func check(p *pair, m *model) {
	p.Helper()
	tenant, _, in := m.auth.In()
	if t, i := p.c.Who(); t != tenant || i != in {
		p.Fatalf("%q, %v, not %q, %v", t, i, tenant, in)
	}
	for n := range 4 {
		a, b := p.c.Waits(n)
		if c, d := m.mux.Waits(n); a != c || b != d {
			p.Fatalf("channel %d: %d and %d wait, not %d and %d", n, a, b, c, d)
		}
	}
}

// P21.2: whatever is sent before login, nothing is reported but In and Gone.
func TestOnlyInAndGone(t *testing.T) {
	source := rand.New(rand.NewSource(5))
	gone := 0
	for range 150 {
		c := small(t)
		p := connect(t, c)
		in := newModel(p, c)
		in.auth.Service(service("ssh-userauth"))
		in.auth.Handle(p.request(seedT, "t"))
		l := []message.Msg{pick(source, p, newModel(p, c))}
		for range source.Intn(5) {
			l = append(l, pick(source, p, in))
		}
		events, _ := p.c.Feed(p.packets(l...))
		for _, e := range events {
			if e.Kind == conn.In {
				break
			}
			if gone++; e != (conn.Event{Kind: conn.Gone}) {
				t.Fatalf("%+v after %.300v", events, l)
			}
		}
	}
	if gone < 50 {
		t.Errorf("%d were gone", gone)
	}
}

// told is all that a connection has reported and sent.
type told struct {
	events []conn.Event
	out    string
	wrong  int
	gone   bool
}

func replay(t *testing.T, c conn.Config, s string, ends []int) told {
	t.Helper()
	x, err := conn.New(c)
	if err != nil {
		t.Fatal(err)
	}
	var r told
	fed := 0
	for _, end := range append(ends, len(s)) {
		events, err := x.Feed(s[fed:end])
		fed = end
		r.events = append(r.events, events...)
		if err != nil {
			r.wrong = api.Code(err)
			break
		}
	}
	r.out, r.gone = x.Out(), x.Gone()
	return r
}

// P21.1, P21.3: what a connection does is the same for each division of the bytes,
// and for each repetition.
func TestDivisions(t *testing.T) {
	open := func(n uint32) message.Msg {
		return say(90, numbers(n, 9, 9), "direct-tcpip", dialing("web", 80))
	}
	for _, last := range []message.Msg{success(), open(3), global("tcpip-forward", "", true), say(94, numbers(0), "x")} {
		c := small(t)
		p := connect(t, c)
		s := p.fed + p.packets(service("ssh-userauth"), p.request(seedX, "t"), p.request(seedT, "t"), global("tcpip-forward", text("web")+u32(80), true), global("x", "", true), open(1), open(2), last)
		want := replay(t, c, s, nil)
		if len(want.events) < 4 || (want.wrong == 0) != (last.Kind == 90) {
			t.Fatalf("%+v", want)
		}
		for at := 0; at < len(s); at += 7 {
			ends := []int{at, min(at+length(at), len(s))}
			got := replay(t, c, s, ends)
			if got.wrong != want.wrong || got.gone != want.gone || got.out != want.out || !slices.Equal(got.events, want.events) {
				t.Fatalf("divided at %v: %.300v, not %.300v", ends, got, want)
			}
		}
	}
}

// length is a short length that is not always the same.
func length(n int) int { return n * 31 % 90 }
