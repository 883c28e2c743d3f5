package relay_test

import (
	"fmt"
	"math/rand"
	"slices"
	"strings"
	"testing"

	"speakeasy/api"
	"speakeasy/auth"
	"speakeasy/edsign"
	"speakeasy/lease"
	"speakeasy/message"
	"speakeasy/mux"
	"speakeasy/relay"
	"speakeasy/session"
	"speakeasy/wire"
)

// person is a guest that keeps to the protocol. Each of its channels belongs to a
// call; the lowest bit of what calls has tells whether it is the device there.
type person struct {
	number   int // of its connection
	user     string
	session  *session.Session
	mux      *mux.Mux
	asked    bool // for the service, and to log in
	in       bool
	calls    map[int]int // by channel
	asking   []int       // channels for which the relay has asked
	out      string      // bytes that have not arrived at the relay
	received string      // bytes that the relay has sent, and that have not arrived here
}

// call is what the client (0) and the device (1) of a call have written and read.
type call struct{ written, read [2]string }

// city is a relay with persons who do anything that may be done.
type city struct {
	*testing.T
	*relay.Relay
	c       relay.Config
	source  *rand.Rand
	persons []*person
	calls   []*call
	log     strings.Builder // all that the relay has sent
}

var users = map[string][32]byte{"t": seedT, "u": seedU}

func newCity(t *testing.T, seed int64) *city {
	source := rand.New(rand.NewSource(seed))
	c := relay.Config{
		Seed: "seed", Host: host, Conns: 2 + source.Intn(5), Tries: 2, Streams: source.Intn(9), Silent: 30 + source.Intn(60),
		Lease: lease.Config{Names: 1 + source.Intn(3), Total: 1 + source.Intn(5), Life: 20 + source.Intn(40)},
		Mux:   mux.Config{Channels: 1 + source.Intn(6), Buffer: 1 + source.Intn(90), Window: 1 + uint32(source.Intn(90)), Most: 1 + uint32(source.Intn(60))},
	}
	return &city{T: t, Relay: relay.New(c, tenants(t)), c: c, source: source}
}

func (c *city) join() {
	c.Helper()
	n, err := c.Connect()
	if err != nil {
		if err != api.ErrFull || len(c.Conns()) != c.c.Conns {
			c.Fatalf("%v with %v", err, c.Conns())
		}
		return
	}
	user := []string{"t", "t", "t", "u"}[c.source.Intn(4)]
	s, err := session.New(session.Config{Client: true, Software: "cli", Seed: fmt.Sprint("person", n), Pin: edsign.Key(host)})
	if err != nil {
		c.Fatal(err)
	}
	window := 1 + uint32(c.source.Intn(50))
	m := mux.New(mux.Config{Channels: 32, Buffer: 100, Window: window, Most: 1 + uint32(c.source.Intn(20))})
	c.persons = append(c.persons, &person{number: n, user: user, session: s, mux: m, calls: map[int]int{}})
}

// carry transports some bytes, both ways.
func (c *city) carry(p *person, most int) {
	c.Helper()
	if v := p.session.Vars(); v.Open && !p.asked {
		p.asked = true
		p.session.Send(say(5, nil, "ssh-userauth").Bytes())
		p.session.Send(auth.Request(v.ID, users[p.user], p.user).Bytes())
	}
	if p.in {
		for _, m := range p.mux.Flush() {
			p.session.Send(m.Bytes())
		}
	}
	p.out += p.session.Out()
	n := min(most, len(p.out))
	if err := c.Feed(p.number, p.out[:n]); err != nil {
		c.Fatalf("Feed: %v", err)
	}
	p.out = p.out[n:]
	sent := c.Out(p.number)
	c.log.WriteString(sent)
	p.received += sent
	n = min(most, len(p.received))
	payloads, err := p.session.Feed(p.received[:n])
	if err != nil {
		c.Fatalf("person %d: %v", p.number, err)
	}
	p.received = p.received[n:]
	for _, payload := range payloads {
		m, err := message.Parse(payload)
		if err != nil {
			c.Fatal(err)
		}
		c.hear(p, m)
	}
}

// hear lets a person process a message.
func (c *city) hear(p *person, m message.Msg) {
	c.Helper()
	if m.Kind == 52 {
		p.in = true
	}
	if m.Kind < 90 {
		return
	}
	if m.Kind == 97 || m.Kind == 96 {
		c.read(p, int(m.U[0]), 1<<20)
	}
	events, err := p.mux.Handle(m)
	if err != nil {
		c.Fatalf("person %d: %v: %v", p.number, m, err)
	}
	for _, e := range events {
		switch e.Kind {
		case mux.Asked:
			i := wire.Of(e.Text)
			i.Text(100)
			p.calls[e.Channel] = int(i.U32())<<1 | 1
			p.asking = append(p.asking, e.Channel)
		case mux.Failed:
			delete(p.calls, e.Channel)
		}
	}
}

// read must return what the other side of the call has written next.
func (c *city) read(p *person, channel, most int) {
	c.Helper()
	s, err := p.mux.Read(channel, most)
	if err != nil {
		return
	}
	id := p.calls[channel]
	x, side := c.calls[id>>1], id&1
	x.read[side] += s
	if !strings.HasPrefix(x.written[1-side], x.read[side]) {
		c.Fatalf("%q was read, but %q was written", x.read[side], x.written[1-side])
	}
}

func (c *city) write(p *person, channel int) {
	id, ok := p.calls[channel]
	if !ok {
		return
	}
	x, side := c.calls[id>>1], id&1
	s := ""
	for range c.source.Intn(60) {
		s += string(rune('a' + c.source.Intn(26)))
	}
	if p.mux.Write(channel, s) == nil {
		x.written[side] += s
	}
}

// act lets a person do something.
func (c *city) act(p *person) {
	c.Helper()
	if !p.in {
		return
	}
	names := []string{"a", "b", "c"}
	alias := names[c.source.Intn(len(names))]
	channels := p.mux.Channels()
	pick := 0
	if len(channels) > 0 {
		pick = channels[c.source.Intn(len(channels))]
	}
	switch c.source.Intn(20) {
	case 0:
		p.session.Send(forward(alias, 80, true).Bytes())
	case 1, 2:
		if c.source.Intn(12) == 0 {
			p.session.Send(cancel(alias).Bytes())
		}
	case 3:
		p.session.Send(beat(false).Bytes())
	case 4, 5, 6:
		if n, err := p.mux.Open("direct-tcpip", text(alias)+u32(uint32(len(c.calls)))+text("")+u32(0)); err == nil {
			p.calls[n] = len(c.calls) << 1
			c.calls = append(c.calls, &call{})
		}
	case 7, 8, 9:
		if len(p.asking) > 0 {
			if n := p.asking[0]; c.source.Intn(5) == 0 {
				p.mux.Reject(n, 7, "")
			} else {
				p.mux.Accept(n)
			}
			p.asking = p.asking[1:]
		}
	case 10, 11, 12, 13:
		c.write(p, pick)
	case 14, 15, 16:
		c.read(p, pick, c.source.Intn(50))
	case 17:
		if c.source.Intn(3) == 0 {
			p.mux.EOF(pick)
		}
	case 18:
		if c.source.Intn(6) == 0 {
			p.mux.Close(pick)
		}
	case 19:
		if c.source.Intn(6) == 0 {
			p.session.Rekey()
		}
	}
}

// leave ends a connection in one of several ways.
func (c *city) leave(p *person) {
	switch c.source.Intn(3) {
	case 0:
		c.Reset(p.number)
	case 1:
		p.session.Close(11, "")
		c.Feed(p.number, p.out+p.session.Out())
	case 2:
		c.Feed(p.number, strings.Repeat("\xff", 40000))
	}
	c.forget()
}

// forget removes the persons whose connections are no more.
func (c *city) forget() {
	conns := c.Conns()
	c.persons = slices.DeleteFunc(c.persons, func(p *person) bool { return !slices.Contains(conns, p.number) })
}

// check checks P22.2 and P22.3.
func (c *city) check() {
	c.Helper()
	conns, leases := c.Conns(), c.Leases()
	streams, channels := map[string]int{}, map[int]int{}
	for _, s := range c.Streams() {
		streams[s.Tenant]++
		channels[s.Client]++
		channels[s.Device]++
		a, in := c.Who(s.Client)
		b, also := c.Who(s.Device)
		if !in || !also || a != s.Tenant || b != s.Tenant {
			c.Fatalf("%+v between %q and %q", s, a, b)
		}
		if !slices.ContainsFunc(leases, func(l lease.Lease) bool {
			return l.Tenant == s.Tenant && l.Alias == s.Alias && l.Epoch == s.Epoch && l.Owner == s.Device
		}) {
			c.Fatalf("%+v without a lease: %+v", s, leases)
		}
	}
	names := map[string]int{}
	for _, l := range leases {
		names[l.Tenant]++
		if !slices.Contains(conns, l.Owner) || names[l.Tenant] > c.c.Lease.Names {
			c.Fatalf("%+v of %v", l, conns)
		}
	}
	if len(conns) > c.c.Conns || len(leases) > c.c.Lease.Total || streams["t"] > c.c.Streams || streams["u"] > c.c.Streams {
		c.Fatalf("%v, %v, %v", conns, leases, streams)
	}
	for n, count := range channels {
		if count > c.c.Mux.Channels {
			c.Fatalf("%d channels of %d", count, n)
		}
	}
}

// settle carries everything until nothing more comes, while everybody reads.
func (c *city) settle() {
	c.Helper()
	for range 200 {
		for _, p := range c.persons {
			c.carry(p, 1<<20)
			for _, n := range p.mux.Channels() {
				c.read(p, n, 1<<20)
			}
			for _, n := range p.asking {
				p.mux.Accept(n)
			}
			p.asking = nil
		}
	}
	for _, p := range c.persons {
		if p.out != "" || p.received != "" || c.Out(p.number) != "" {
			c.Fatalf("person %d: it never ends", p.number)
		}
	}
}

// complete checks that at both ends of each open stream everything has arrived.
func (c *city) complete() int {
	c.Helper()
	found := map[int]int{}
	for _, p := range c.persons {
		for n, id := range p.calls {
			if p.mux.Write(n, "") != api.ErrNone {
				found[id>>1]++
			}
		}
	}
	open := 0
	for _, s := range c.Streams() {
		if !s.Open {
			c.Fatalf("%+v is waiting", s)
		}
		open++
	}
	whole := 0
	for id, n := range found {
		if n < 2 {
			continue
		}
		whole++
		if x := c.calls[id]; x.read[0] != x.written[1] || x.read[1] != x.written[0] {
			c.Fatalf("call %d: %+v", id, x)
		}
	}
	if whole != open {
		c.Fatalf("%d calls with two ends, but %d streams", whole, open)
	}
	return open
}

// live lets anything happen that may happen.
func live(t *testing.T, seed int64) *city {
	t.Helper()
	c := newCity(t, seed)
	for range 2 {
		c.join()
	}
	for range 2500 {
		if len(c.persons) == 0 || c.source.Intn(30) == 0 {
			c.join()
			continue
		}
		p := c.persons[c.source.Intn(len(c.persons))]
		switch c.source.Intn(10) {
		case 0, 1, 2, 3:
			c.act(p)
		case 4, 5, 6:
			c.carry(p, c.source.Intn(400))
		case 7, 8:
			c.carry(p, 1<<20)
		case 9:
			if c.source.Intn(50) == 0 {
				c.leave(p)
			} else if c.source.Intn(6) == 0 {
				c.Tick()
				c.forget()
			}
		}
		c.check()
	}
	return c
}

// P22.1, P22.2, P22.3: what is read is always a prefix of what was written, and
// everything arrives on the streams that are left.
func TestRandom(t *testing.T) {
	left, bytes := 0, 0
	for seed := range int64(60) {
		c := live(t, seed)
		c.settle()
		c.check()
		left += c.complete()
		for _, x := range c.calls {
			bytes += len(x.read[0]) + len(x.read[1])
		}
	}
	if left < 40 || bytes < 20000 {
		t.Errorf("%d streams were left, %d bytes were read", left, bytes)
	}
}

// P22.1: the same calls lead to the same results.
func TestRepeated(t *testing.T) {
	for seed := range int64(5) {
		a, b := live(t, seed), live(t, seed)
		if a.log.String() != b.log.String() || !slices.Equal(a.Streams(), b.Streams()) || !slices.Equal(a.Leases(), b.Leases()) {
			t.Errorf("seed %d: other results", seed)
		}
	}
}
