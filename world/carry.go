package world

import (
	"strconv"

	"speakeasy/api"
	"speakeasy/inner"
	"speakeasy/peer"
)

const mostRounds = 1000 // of one Run

// Carry transports bytes in one direction of the link of a name.
func (w *World) Carry(name string, way, n int) error {
	m := w.members[name]
	if m == nil {
		return api.ErrNone
	}
	_, err := w.carry(m, way, n)
	return err
}

// carry transports bytes, and returns how many were taken from the link.
func (w *World) carry(m *member, way, n int) (int, error) {
	if _, err := m.link.Take(way, 0); err != nil { // there is no such direction, or the link is down
		return 0, err
	}
	m.exchange(w.mux.Buffer)
	var taken string
	if way == up {
		taken = m.transport(up, m.Out(), n)
		_ = w.relay.Feed(m.number, taken) // the peer learns of an error by the bytes that are sent back
	} else {
		taken = m.transport(down, w.relay.Out(m.number), n)
		events, _ := m.Feed(taken) // an error is among the events
		w.process(m, events)
	}
	m.exchange(w.mux.Buffer)
	return len(taken), nil
}

// process processes the events of a peer.
func (w *World) process(m *member, events []peer.Event) {
	for _, e := range events {
		switch e.Kind {
		case peer.Asked:
			_ = m.Accept(e.Channel) // there is no error, as nobody else answers what was asked
			w.begin(m, e.Channel, "+", inner.Config{Host: w.inside(m.name)})
		case peer.Confirmed:
			w.begin(m, e.Channel, "-", inner.Config{Client: true, Pin: m.pins[e.Channel]})
		case peer.Closed, peer.Failed:
			delete(m.tunnels, e.Channel)
			delete(m.pins, e.Channel)
		}
	}
	m.told = append(m.told, events...)
}

// begin begins an inner session on a channel. No two sessions have the same random
// values, as their numbers differ; mark differs for a host and a client.
func (w *World) begin(m *member, channel int, mark string, c inner.Config) {
	c.Seed = w.seed + mark + m.name + mark + strconv.Itoa(w.begun[m.name])
	w.begun[m.name]++
	m.tunnels[channel] = &tunnel{Inner: inner.New(c)}
}

// Run carries all bytes until there are none, or until most rounds are over.
func (w *World) Run(most int) (int, bool) {
	most = min(max(most, 0), mostRounds)
	for i := range most {
		if !w.round() {
			return i + 1, true
		}
	}
	return most, false
}

// round carries all bytes once, and reports whether there were any. Those that it puts
// on a link it takes from it as well.
func (w *World) round() bool {
	moved := false
	for _, name := range w.Names() {
		for way := range 2 {
			n, _ := w.carry(w.members[name], way, room)
			moved = moved || n > 0
		}
	}
	return moved
}
