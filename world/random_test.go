package world_test

import (
	"encoding/binary"
	"fmt"
	"math"
	"math/rand"
	"strings"
	"testing"

	"speakeasy/api"
	"speakeasy/peer"
	"speakeasy/world"
)

// voice is what an inner session has said and heard. What it says tells who it is, so
// that a test knows to whom the other end listens.
type voice struct {
	id     int
	client bool
	name   string
	device string // for which a client has dialed
	said   string
	heard  string
	other  *voice
}

// place is a channel of a name.
type place struct {
	name    string
	channel int
}

// city is a world in which anything happens that may happen.
type city struct {
	*both
	source  *rand.Rand
	voices  []*voice
	at      map[place]*voice
	devices map[place]string // of the channels that were dialed
	stops   int              // cuts, ticks and what else may end a stream
}

func newCity(t *testing.T, source *rand.Rand, window int) *city {
	t.Helper()
	c := world.Config{
		Seed: fmt.Sprint("seed", source.Intn(1000)), Conns: 2 + source.Intn(4), Streams: 1 + source.Intn(9),
		Silent: 10 + source.Intn(30), Names: 1 + source.Intn(4), Life: 10 + source.Intn(30), Window: window,
	}
	x := &city{both: create(t, c), source: source, at: map[place]*voice{}, devices: map[place]string{}}
	for i, tenant := range []string{"t", "t", "t", "u", "t", "t"} {
		x.grant(tenant, someNames[i])
	}
	x.join("a", "t")
	x.join("b", "t")
	x.rest()
	x.forward("a", "x")
	return x
}

func (c *city) pick(l ...string) string { return l[c.source.Intn(len(l))] }

func (c *city) name() string {
	if c.source.Intn(30) == 0 {
		return c.pick(someNames...)
	}
	return c.pick(someNames[:4]...)
}

func (c *city) alias() string {
	if c.source.Intn(30) == 0 {
		return c.pick("", "A", strings.Repeat("x", 256))
	}
	return c.pick("x", "y")
}

func (c *city) channel() int {
	if c.source.Intn(40) == 0 {
		return []int{-1, 8, math.MinInt, math.MaxInt}[c.source.Intn(4)]
	}
	return c.source.Intn(3)
}

// place returns a channel, most of the time one with an inner session.
func (c *city) place() (string, int) {
	var l []place
	for _, name := range c.Names() {
		for channel := range 8 {
			if p := (place{name, channel}); c.at[p] != nil {
				l = append(l, p)
			}
		}
	}
	if len(l) == 0 || c.source.Intn(20) == 0 {
		return c.name(), c.channel()
	}
	p := l[c.source.Intn(len(l))]
	return p.name, p.channel
}

// news reads what a peer was told: sessions begin and end.
func (c *city) news(name string) {
	c.Helper()
	for _, e := range c.told(name) {
		p := place{name, e.Channel}
		switch e.Kind {
		case peer.Asked, peer.Confirmed:
			v := &voice{id: len(c.voices), name: name, client: e.Kind == peer.Confirmed}
			if v.client {
				v.device = c.devices[p]
			}
			c.voices = append(c.voices, v)
			c.at[p] = v
		case peer.Closed, peer.Failed:
			delete(c.at, p)
		}
	}
}

func (c *city) allNews() {
	for _, name := range c.Names() {
		c.news(name)
	}
}

// talk says the next bytes of a voice: its number, and how far it is, again and again.
func (c *city) talk(name string, channel, n int) {
	c.Helper()
	v := c.at[place{name, channel}]
	if v == nil {
		c.say(name, channel, "nobody")
		return
	}
	s := ""
	for at := len(v.said); len(s) < n; at += 4 {
		s += string(binary.BigEndian.AppendUint16([]byte{byte(v.id >> 8), byte(v.id)}, uint16(at)))
	}
	if c.say(name, channel, s) {
		v.said += s
	}
}

// listen hears bytes, which must be the next ones of one voice, which is that of the
// device for which the client has dialed.
func (c *city) listen(name string, channel, n int) {
	c.Helper()
	s := c.hear(name, channel, n)
	v := c.at[place{name, channel}]
	if s == "" {
		return
	}
	if v == nil {
		c.Fatalf("%q, %d: there is nobody, but %q was heard", name, channel, s)
	}
	v.heard += s
	if v.other == nil && len(v.heard) > 1 {
		v.other = c.voices[int(v.heard[0])<<8|int(v.heard[1])]
		if v.other.other != nil && v.other.other != v {
			c.Fatalf("two listen to one")
		}
		v.other.other = v
	}
	if v.other == nil {
		return
	}
	client, host := v, v.other
	if host.client {
		client, host = host, client
	}
	if !client.client || host.client || client.device != host.name || !strings.HasPrefix(v.other.said, v.heard) {
		c.Fatalf("%+v listens to %+v", v, v.other)
	}
}

// transport carries some bytes.
func (c *city) transport(name string) {
	c.Helper()
	n := c.source.Intn(300)
	switch c.source.Intn(12) {
	case 0:
		n = []int{math.MinInt, -1, 0, 1, 1 << 32, math.MaxInt}[c.source.Intn(6)]
	case 1, 2, 3, 4:
		n = 1000
	}
	way := c.source.Intn(2)
	if c.source.Intn(60) == 0 {
		way = []int{-1, 2, math.MinInt, math.MaxInt}[c.source.Intn(4)]
	}
	c.carry(name, way, n)
	c.news(name)
}

// request makes a peer request something.
func (c *city) request(name string) {
	c.Helper()
	switch c.source.Intn(12) {
	case 0, 1:
		c.forward(name, c.alias())
	case 2:
		if c.source.Intn(9) == 0 {
			c.cancel(name, c.alias())
		}
	case 3, 4, 5:
		c.beat(name)
	default:
		device := c.pick(someNames[:3]...)
		alias := c.alias()
		for _, l := range c.Relay().Leases() { // most of the time, that is the right one
			for other, p := range c.model.names {
				if l.Alias == alias && l.Owner == p.number && c.source.Intn(5) > 0 {
					device = other
				}
			}
		}
		if n, err := c.dial(name, alias, device); err == nil {
			c.devices[place{name, n}] = device
		}
	}
}

// disturb ends something, or lets time pass.
func (c *city) disturb(name string) {
	c.Helper()
	c.stops++
	switch c.source.Intn(14) {
	case 0, 1, 2:
		c.cut(name)
		for p := range c.at {
			if p.name == name {
				delete(c.at, p)
			}
		}
	case 3:
		c.revoke(name)
	case 4, 5:
		c.grant(c.pick("t", "t", "t", "u", "", "T"), name)
	case 6, 7, 8:
		name, channel := c.place()
		c.end(name, channel)
	default:
		c.tick()
	}
}

// act lets anything happen.
func (c *city) act(disturbed bool) {
	c.Helper()
	name := c.name()
	switch c.source.Intn(20) {
	case 0:
		c.join(name, c.pick("t", "t", "t", "u", ""))
	case 1, 2:
		c.request(name)
	case 3, 4, 5:
		n := c.source.Intn(60)
		if c.source.Intn(60) == 0 {
			n = 17000
		}
		name, channel := c.place()
		c.talk(name, channel, n)
	case 6, 7, 8:
		n := c.source.Intn(90) - 5
		if c.source.Intn(10) == 0 {
			n = math.MaxInt
		}
		name, channel := c.place()
		c.listen(name, channel, n)
	case 9:
		if disturbed && c.source.Intn(6) == 0 {
			c.disturb(name)
		}
	case 10:
		c.run(c.source.Intn(15) - 2)
		c.allNews()
	default:
		c.transport(name)
	}
}

// settle transports all bytes and hears them.
func (c *city) settle() {
	c.Helper()
	c.rest()
	c.allNews()
	for p := range c.at {
		c.listen(p.name, p.channel, math.MaxInt)
	}
	c.check()
}

// ears returns how many voices have heard something, and how many bytes.
func (c *city) ears() (int, int) {
	voices, bytes := 0, 0
	for _, v := range c.voices {
		if v.heard != "" {
			voices++
			bytes += len(v.heard)
		}
	}
	return voices, bytes
}

// P26.1, P26.2: any calls, in any order, have the results that the document says, and
// what is heard is always what the right one has said.
func TestRandom(t *testing.T) {
	source := rand.New(rand.NewSource(261))
	voices, bytes, sent := 0, 0, 0
	for _, window := range []int{64, 1000, 16, 17, 5000, 100, 64, 15, 1 << 24, 300, 64, 1, 2, 200, 64, 1000} {
		c := newCity(t, source, window)
		for range 1500 {
			c.act(true)
			c.check()
		}
		if source.Intn(2) == 0 {
			c.settle()
		}
		for p := range c.at {
			c.talk(p.name, p.channel, 60)
		}
		for _, name := range c.Names() {
			c.carry(name, 0, 1000) // so that there are bytes of inner sessions at the relay
		}
		n, all := c.ears()
		voices, bytes, sent = voices+n, bytes+all, sent+c.compare()
	}
	if voices < 60 || bytes < 20000 || sent < 3000 {
		t.Errorf("%d voices have heard %d bytes, %d bytes were left", voices, bytes, sent)
	}
}

// P26.3: without a disturbance everything that was said arrives.
func TestLive(t *testing.T) {
	source := rand.New(rand.NewSource(263))
	bytes := 0
	for _, window := range []int{100, 64, 17, 1000, 1 << 24, 16, 3, 64, 1} {
		c := newCity(t, source, window)
		acts := 1500
		if window < 16 { // which takes long
			acts = 300
		}
		for range acts {
			c.act(false)
		}
		c.settle()
		for p, v := range c.at {
			if v.other != nil && (v.heard != v.other.said || v.said != v.other.heard) {
				t.Fatalf("%+v has heard %d of %d bytes, and %d of its %d were heard", p, len(v.heard), len(v.other.said), len(v.other.heard), len(v.said))
			}
			if v.other == nil && v.said != "" && c.Ready(p.name, p.channel) {
				t.Fatalf("%+v: nobody has heard %d bytes", p, len(v.said))
			}
		}
		_, n := c.ears()
		bytes += n
	}
	if bytes < 5000 {
		t.Errorf("%d bytes were heard", bytes)
	}
}

// P26.1: the same calls have the same results.
func TestRepeated(t *testing.T) {
	for seed := range int64(3) {
		live := func() *city {
			c := newCity(t, rand.New(rand.NewSource(seed)), 64)
			for range 600 {
				c.act(true)
			}
			return c
		}
		a, b := live(), live()
		for _, n := range a.Relay().Conns() {
			if x, y := a.Relay().Out(n), b.Relay().Out(n); x != y {
				t.Errorf("%d and %d bytes", len(x), len(y))
			}
		}
	}
}

// P1: no arguments are too strange.
func TestStrange(t *testing.T) {
	b := create(t, world.Config{Seed: "\x00\xff"})
	b.grant("t", "\x00\xff")
	b.grant("t", strings.Repeat("\x80", 5000))
	b.join("\x00\xff", "t")
	b.rest()
	b.forward("\x00\xff", "\xff")
	b.forward("\x00\xff", "x")
	b.rest()
	if _, err := b.dial("\x00\xff", "x", strings.Repeat("?", 5000)); err != nil {
		t.Error(err)
	}
	b.rest()
	for _, most := range []int{math.MinInt, -1, 0} {
		if n, ended := b.World.Run(most); n != 0 || ended {
			t.Errorf("Run(%d): %d, %v", most, n, ended)
		}
	}
	if b.Say("\x00\xff", math.MinInt, "") != api.ErrNone {
		t.Error("a channel that cannot be")
	}
}
