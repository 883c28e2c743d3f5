package world_test

import (
	"fmt"
	"slices"

	"speakeasy/api"
	"speakeasy/edsign"
	"speakeasy/hmac"
	"speakeasy/inner"
	"speakeasy/lease"
	"speakeasy/mux"
	"speakeasy/peer"
	"speakeasy/relay"
	"speakeasy/store"
	"speakeasy/world"
)

// model is a world as the document says it, with links and queues that are plain
// strings.
type model struct {
	seed  string
	mux   mux.Config
	store *store.Store
	relay *relay.Relay
	names map[string]*person
	begun map[string]int
}

// person is a connected name.
type person struct {
	name       string
	number     int
	peer       *peer.Peer
	rest, link [2]string
	ends       map[int]*end
	devices    map[int]string // of the channels that were dialed
	told       []peer.Event
}

// end is the inner session of a channel, and what it has to send.
type end struct {
	*inner.Inner
	rest string
}

// spread returns the seed of a key.
func spread(seed, label string) [32]byte { return [32]byte([]byte(hmac.Spread(seed, label, 32))) }

// key returns the public key with which a name logs in, and pin its key within streams.
func key(seed, name string) [32]byte { return edsign.Key(spread(seed, "key "+name)) }

func pin(seed, name string) [32]byte { return edsign.Key(spread(seed, "inner "+name)) }

// relayConfig returns how the relay of a world is.
func relayConfig(c world.Config) relay.Config {
	window := min(max(c.Window, 1), 1<<24)
	return relay.Config{
		Seed: c.Seed, Host: spread(c.Seed, "host"), Conns: c.Conns, Tries: 3, Streams: c.Streams, Silent: c.Silent,
		Lease: lease.Config{Names: c.Names, Total: 64, Life: c.Life},
		Mux:   mux.Config{Channels: 8, Buffer: window, Window: uint32(window), Most: 16},
	}
}

func newModel(c world.Config) *model {
	s, r := store.New(16, 16), relayConfig(c)
	return &model{seed: c.Seed, mux: r.Mux, store: s, relay: relay.New(r, s), names: map[string]*person{}, begun: map[string]int{}}
}

func (m *model) join(name, tenant string) error {
	if len(name) < 1 || len(name) > 16 {
		return api.ErrName
	}
	if m.names[name] != nil {
		return api.ErrHave
	}
	n, err := m.relay.Connect()
	if err != nil {
		return err
	}
	p := peer.New(peer.Config{
		Seed: m.seed + "/" + name, Pin: edsign.Key(spread(m.seed, "host")),
		Key: spread(m.seed, "key "+name), User: tenant, Mux: m.mux,
	})
	m.names[name] = &person{name: name, number: n, peer: p, ends: map[int]*end{}, devices: map[int]string{}}
	return nil
}

func (m *model) cut(name string) error {
	p := m.names[name]
	if p == nil {
		return api.ErrNone
	}
	m.relay.Reset(p.number)
	delete(m.names, name)
	return nil
}

// carry transports bytes; it also tells whether there were any on the link.
func (m *model) carry(name string, way, n int) (bool, error) {
	p := m.names[name]
	if p == nil {
		return false, api.ErrNone
	}
	if way != 0 && way != 1 {
		return false, api.ErrArg
	}
	p.inside()
	if way == 0 {
		p.rest[0] += p.peer.Out()
	} else {
		p.rest[1] += m.relay.Out(p.number)
	}
	put := min(len(p.rest[way]), 1000-len(p.link[way]))
	p.link[way] += p.rest[way][:put]
	p.rest[way] = p.rest[way][put:]
	n = min(max(n, 0), len(p.link[way]))
	s := p.link[way][:n]
	p.link[way] = p.link[way][n:]
	if way == 0 {
		m.relay.Feed(p.number, s)
	} else {
		events, _ := p.peer.Feed(s)
		for _, e := range events {
			m.process(p, e)
		}
	}
	p.inside()
	return put+n > 0, nil
}

// inside exchanges bytes between the channels and their inner sessions.
func (p *person) inside() {
	for n := range 32 {
		e := p.ends[n]
		if e == nil {
			continue
		}
		s, _ := p.peer.Read(n, 1<<24)
		e.Feed(s)
		e.rest += e.Out()
		for e.rest != "" && p.peer.Write(n, e.rest[:1]) == nil { // as long as there is room
			e.rest = e.rest[1:]
		}
	}
}

func (m *model) process(p *person, e peer.Event) {
	p.told = append(p.told, e)
	number := m.begun[p.name]
	switch e.Kind {
	case peer.Asked:
		p.peer.Accept(e.Channel)
		p.ends[e.Channel] = &end{Inner: inner.New(inner.Config{
			Seed: fmt.Sprintf("%s+%s+%d", m.seed, p.name, number), Host: spread(m.seed, "inner "+p.name),
		})}
		m.begun[p.name]++
	case peer.Confirmed:
		p.ends[e.Channel] = &end{Inner: inner.New(inner.Config{
			Client: true, Seed: fmt.Sprintf("%s-%s-%d", m.seed, p.name, number), Pin: pin(m.seed, p.devices[e.Channel]),
		})}
		m.begun[p.name]++
	case peer.Closed, peer.Failed:
		delete(p.ends, e.Channel)
	}
}

func (m *model) dial(name, alias, device string) (int, error) {
	p := m.names[name]
	if p == nil {
		return 0, api.ErrNone
	}
	n, err := p.peer.Dial(alias, 80)
	if err == nil {
		p.devices[n] = device
	}
	return n, err
}

// end returns the inner session of a channel; nil: there is none.
func (m *model) end(name string, channel int) *end {
	p := m.names[name]
	if p == nil {
		return nil
	}
	return p.ends[channel]
}

func (m *model) sorted() []string {
	var l []string
	for name := range m.names {
		l = append(l, name)
	}
	slices.Sort(l)
	return l
}

func (m *model) run(most int) (int, bool) {
	rounds := 0
	for rounds < most && rounds < 1000 {
		rounds++
		moved := false
		for _, name := range m.sorted() {
			for way := range 2 {
				some, _ := m.carry(name, way, 1<<30)
				moved = some || moved
			}
		}
		if !moved {
			return rounds, true
		}
	}
	return rounds, false
}

func (m *model) told(name string) []peer.Event {
	p := m.names[name]
	if p == nil {
		return nil
	}
	l := p.told
	p.told = nil
	return l
}
