package inner_test

import (
	"errors"
	"math/rand"
	"strings"
	"testing"

	"speakeasy/api"
	"speakeasy/edsign"
	"speakeasy/inner"
	"speakeasy/lease"
	"speakeasy/mux"
	"speakeasy/peer"
	"speakeasy/relay"
	"speakeasy/store"
)

// stream is a stream of a relay between two peers, with an inner session.
type stream struct {
	*testing.T
	relay *relay.Relay
	peers [2]*peer.Peer // the client and the device
	ends  [2]*inner.Inner
	left  [2]string // what the channels had no room for
	wrong [2]error
	seen  string // all bytes that the relay was given in the stream
}

func open(t *testing.T, pin [32]byte) *stream {
	t.Helper()
	s := &stream{T: t}
	keys := store.New(1, 2)
	limits := mux.Config{Channels: 1, Buffer: 200, Window: 300, Most: 70}
	s.relay = relay.New(relay.Config{Seed: "r", Host: [32]byte{9}, Conns: 2, Tries: 1, Streams: 1, Silent: 9, Lease: lease.Config{Names: 1, Total: 1, Life: 9}, Mux: limits}, keys)
	for i := range s.peers {
		key := [32]byte{byte(i), 7}
		if _, err := s.relay.Connect(); err != nil || keys.Add("t", edsign.Key(key)) != nil {
			t.Fatal(err)
		}
		s.peers[i] = peer.New(peer.Config{Seed: string(rune('a' + i)), Pin: edsign.Key([32]byte{9}), Key: key, User: "t", Mux: limits})
	}
	s.run()
	forwarded := s.peers[1].Forward("web", 80)
	s.run()
	_, dialed := s.peers[0].Dial("web", 80)
	s.run()
	if err := s.peers[1].Accept(0); err != nil || forwarded != nil || dialed != nil {
		t.Fatal(err, forwarded, dialed)
	}
	s.run()
	c, d := config(true), config(false)
	c.Pin = pin
	s.ends = [2]*inner.Inner{inner.New(c), inner.New(d)}
	return s
}

// pass transports bytes between the inner sessions and the channels.
func (s *stream) pass() {
	for i, e := range s.ends {
		if e == nil {
			continue
		}
		part, _ := s.peers[i].Read(0, 1000)
		if !e.Gone() {
			s.wrong[i] = e.Feed(part)
		}
		s.left[i] += e.Out()
		queued, _ := s.peers[i].Waits(0)
		n := min(len(s.left[i]), 200-queued)
		if s.peers[i].Write(0, s.left[i][:n]) == nil {
			s.seen += s.left[i][:n]
			s.left[i] = s.left[i][n:]
		}
	}
}

func (s *stream) run() {
	s.Helper()
	for range 400 {
		s.pass()
		for i, p := range s.peers {
			up := s.relay.Feed(i, p.Out())
			if _, err := p.Feed(s.relay.Out(i)); err != nil || up != nil {
				s.Fatal(err, up)
			}
		}
	}
}

// P24.2: an inner session through a relay, with small windows, whose relay sees
// nothing that is said.
func TestStream(t *testing.T) {
	source := rand.New(rand.NewSource(8))
	s := open(t, edsign.Key(host))
	said := [2]string{strings.Repeat("a secret. ", 800) + letters(source, 9000), letters(source, 9000) + "another secret"}
	for i, e := range s.ends {
		if err := e.Write(said[i]); err != nil {
			t.Fatal(err)
		}
	}
	s.run()
	if !s.ends[0].Ready() || s.ends[0].ID() != s.ends[1].ID() || s.ends[0].Rekey() != nil {
		t.Fatal(s.wrong)
	}
	s.ends[1].Write("the end")
	s.run()
	if s.ends[0].Read(20000) != said[1]+"the end" || s.ends[1].Read(20000) != said[0] {
		t.Error("other bytes")
	}
	if len(s.seen) < len(said[0])+len(said[1]) || strings.Contains(s.seen, "secret") {
		t.Errorf("the relay has seen %d bytes", len(s.seen))
	}
}

// P24.3: a client that is connected to another device than it expects.
func TestStreamPinned(t *testing.T) {
	s := open(t, edsign.Key(thief))
	s.ends[0].Write("a secret")
	s.ends[1].Write("hello")
	s.run()
	if s.ends[0].Ready() || !errors.Is(s.wrong[0], api.ErrHost) || s.ends[0].Waits()+s.ends[1].Waits() != 0 || !s.ends[1].Gone() {
		t.Errorf("%v, %v", s.ends[0].Ready(), s.wrong)
	}
}
