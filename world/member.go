package world

import (
	"bytes"
	"maps"
	"slices"

	"speakeasy/inner"
	"speakeasy/net"
	"speakeasy/peer"
)

// The directions of a link.
const (
	up   = 0 // to the relay
	down = 1
)

// member is a connected name: a peer, and its link to the relay.
type member struct {
	*peer.Peer
	name    string
	number  int // of its connection at the relay
	link    *net.Wire
	queued  [2]bytes.Buffer // what did not fit on the link
	tunnels map[int]*tunnel
	pins    map[int][32]byte // the host keys that are expected on dialed channels
	told    []peer.Event
}

// tunnel is the inner session of a channel.
type tunnel struct {
	*inner.Inner
	queued bytes.Buffer // what did not fit into the channel
}

// exchange exchanges bytes between the channels and their inner sessions. Each
// channel holds at most window bytes that are to be sent.
func (m *member) exchange(window int) {
	for _, n := range slices.Sorted(maps.Keys(m.tunnels)) {
		t := m.tunnels[n]
		waiting, unread := m.Waits(n)
		received, _ := m.Read(n, unread)
		_ = t.Feed(received) // after an error the session is gone, which the bytes do not change
		t.queued.WriteString(t.Out())
		_ = m.Write(n, string(t.queued.Next(window-waiting))) // a channel that is being closed accepts nothing any more
	}
}

// transport puts bytes on the link, behind those that are queued for it, and takes n
// bytes from it.
func (m *member) transport(way int, out string, n int) string {
	m.queued[way].WriteString(out)
	_, _ = m.link.Put(way, string(m.queued[way].Next(m.link.Room(way)))) // all of them, as there is room
	taken, _ := m.link.Take(way, n)
	return taken
}
