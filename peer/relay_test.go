package peer_test

import (
	"errors"
	"fmt"
	"math/rand"
	"slices"
	"strings"
	"testing"

	"speakeasy/api"
	"speakeasy/edsign"
	"speakeasy/lease"
	"speakeasy/peer"
	"speakeasy/relay"
	"speakeasy/store"
)

// The seeds of keys of the tenant u, of nobody, and of one that was revoked.
var (
	other   = [32]byte{3}
	nobody  = [32]byte{4}
	revoked = [32]byte{5}
)

// site is a relay with peers, and the bytes that are on their way between them.
type site struct {
	*testing.T
	*relay.Relay
	source   *rand.Rand // of the division of the bytes; nil: they are not divided
	peers    []*peer.Peer
	up, down []string
	told     [][]peer.Event
	wrong    []error
}

// start returns a site without peers.
func start(t *testing.T, source *rand.Rand) *site {
	t.Helper()
	s := store.New(4, 4)
	for _, err := range []error{s.Add("t", edsign.Key(own)), s.Add("t", edsign.Key(revoked)), s.Add("u", edsign.Key(other))} {
		if err != nil {
			t.Fatal(err)
		}
	}
	if tenant, err := s.Revoke(edsign.Key(revoked)); tenant != "t" || err != nil {
		t.Fatal(tenant, err)
	}
	r := relay.New(relay.Config{
		Seed: "relay", Host: host, Conns: 5, Tries: 3, Streams: 5, Silent: 1000,
		Lease: lease.Config{Names: 3, Total: 9, Life: 1000}, Mux: small().Mux,
	}, s)
	return &site{T: t, Relay: r, source: source}
}

// join connects a peer and returns the number of its connection.
func (s *site) join(c peer.Config) int {
	s.Helper()
	n, err := s.Connect()
	if err != nil || n != len(s.peers) {
		s.Fatal(n, err)
	}
	s.peers = append(s.peers, peer.New(c))
	s.up, s.down = append(s.up, ""), append(s.down, "")
	s.told, s.wrong = append(s.told, nil), append(s.wrong, nil)
	return n
}

// enter connects a peer that logs in.
func (s *site) enter(key [32]byte, user string) int {
	s.Helper()
	c := small()
	c.Key, c.User, c.Seed = key, user, fmt.Sprint("peer", len(s.peers))
	n := s.join(c)
	s.run()
	if who, in := s.Who(n); who != user || !in || !s.peers[n].In() || !slices.Equal(s.news(n), []peer.Event{{Kind: peer.In}}) {
		s.Fatalf("%q, %v", who, in)
	}
	return n
}

// piece cuts off what arrives first.
func (s *site) piece(bytes *string) string {
	n := len(*bytes)
	if s.source != nil && n > 0 {
		n = 1 + s.source.Intn(n)
	}
	first := (*bytes)[:n]
	*bytes = (*bytes)[n:]
	return first
}

// carry transports bytes between a peer and the relay, and reports whether there
// were any.
func (s *site) carry(n int) bool {
	p := s.peers[n]
	s.up[n] += p.Out()
	up := s.piece(&s.up[n])
	s.Feed(n, up) // what is sent to a connection that was removed is lost
	s.down[n] += s.Out(n)
	down := s.piece(&s.down[n])
	if !p.Gone() && down != "" {
		events, err := p.Feed(down)
		s.told[n] = append(s.told[n], events...)
		s.wrong[n] = err
	}
	return up != "" || down != ""
}

// run transports all bytes.
func (s *site) run() {
	s.Helper()
	for range 100000 {
		moved := false
		for n := range s.peers {
			moved = s.carry(n) || moved
		}
		if !moved {
			return
		}
	}
	s.Fatal("no end")
}

// news returns the events of a peer since the last call.
func (s *site) news(n int) []peer.Event {
	l := s.told[n]
	s.told[n] = nil
	return l
}

// P23.2: who is logged in at a relay, and who is gone, for all keys, users and host
// keys.
func TestWhoIsIn(t *testing.T) {
	source := rand.New(rand.NewSource(232))
	tenants := map[[32]byte]string{own: "t", other: "u"}
	gone := peer.Event{Kind: peer.Gone}
	for _, key := range [][32]byte{own, other, nobody, revoked} {
		for _, user := range []string{"t", "u", "v", "", "T", strings.Repeat("t", 30000), strings.Repeat("t", 40000)} {
			for _, pin := range [][32]byte{edsign.Key(host), {}, edsign.Key(nobody)} {
				s := start(t, nil)
				if source.Intn(2) == 0 {
					s.source = source
				}
				n := s.join(peer.Config{Seed: "p", Pin: pin, Key: key, User: user, Mux: small().Mux})
				s.run()
				in, want, wrong := false, []peer.Event{{Kind: peer.Refused}, gone}, error(nil)
				switch {
				case pin != edsign.Key(host):
					want, wrong = []peer.Event{gone}, api.ErrHost
				case len(user) == 40000:
					want, wrong = []peer.Event{gone}, api.ErrBig
				case user != "" && tenants[key] == user:
					in, want = true, []peer.Event{{Kind: peer.In}}
				}
				p := s.peers[n]
				if p.In() != in || p.Gone() == in || !slices.Equal(s.told[n], want) || !errors.Is(s.wrong[n], wrong) {
					t.Fatalf("%x, %.9q: %v, %v, %+v, %v", key, user, p.In(), p.Gone(), s.told[n], s.wrong[n])
				}
				if who, is := s.Who(n); is != in || is && who != user || !is && who != "" || slices.Contains(s.Conns(), n) != in {
					t.Fatalf("%x, %.9q: the relay has %q, %v, %v", key, user, who, is, s.Conns())
				}
			}
		}
	}
}

// P23.2: a peer whose connection the relay has ended is gone.
func TestSilent(t *testing.T) {
	s := start(t, nil)
	n := s.enter(own, "t")
	for range 1000 {
		s.Tick()
	}
	s.run()
	if !s.peers[n].Gone() || s.peers[n].In() || !errors.Is(s.wrong[n], api.ErrGone) || !slices.Equal(s.news(n), []peer.Event{{Kind: peer.Gone}}) {
		t.Errorf("%+v, %v", s.told[n], s.wrong[n])
	}
}

// P23.3: what a relay grants and what it denies.
func TestGrants(t *testing.T) {
	s := start(t, nil)
	a, b, c := s.enter(own, "t"), s.enter(own, "t"), s.enter(other, "u")
	ask := func(n int, err error, want peer.Event) {
		t.Helper()
		s.run()
		if l := s.news(n); err != nil || !slices.Equal(l, []peer.Event{want}) {
			t.Fatalf("%v, %+v, not %+v", err, l, want)
		}
	}
	p, q, r := s.peers[a], s.peers[b], s.peers[c]
	ask(a, p.Forward("web", 80), granted("web"))
	ask(a, p.Forward("web", 80), denied("web"))
	ask(a, p.Forward("No name", 80), denied("No name"))
	ask(a, p.Forward("ssh", 0), granted("ssh"))
	ask(b, q.Cancel("web", 80), denied("web"))
	ask(c, r.Cancel("web", 80), denied("web"))
	ask(c, r.Forward("web", 80), granted("web"))
	ask(b, q.Forward("web", 80), granted("web")) // it is taken over
	ask(a, p.Cancel("web", 80), denied("web"))
	ask(a, p.Cancel("ssh", 1), granted("ssh"))
	ask(c, r.Beat(), granted(""))
	want := []lease.Lease{{Tenant: "t", Alias: "web", Owner: b, Epoch: 4}, {Tenant: "u", Alias: "web", Owner: c, Epoch: 3}}
	if l := s.Leases(); !slices.Equal(l, want) {
		t.Errorf("%+v", l)
	}
}

// P23.3: each request is answered, in order, however the bytes are divided and
// whenever keys are exchanged.
func TestAllAnswered(t *testing.T) {
	source := rand.New(rand.NewSource(233))
	for range 6 {
		s := start(t, source)
		s.enter(own, "t")
		s.enter(own, "t")
		s.enter(other, "u")
		asked := make([][]string, 3)
		rekeys := 0
		for range 300 {
			n := source.Intn(3)
			p := s.peers[n]
			alias := []string{"a", "b", "c", "d", "A", "", strings.Repeat("e", 255)}[source.Intn(7)]
			var err error
			switch source.Intn(6) {
			case 0:
				err = p.Forward(alias, uint32(source.Intn(2)))
			case 1:
				err = p.Cancel(alias, 80)
			case 2:
				alias, err = "", p.Beat()
			case 3:
				if source.Intn(10) == 0 && p.Rekey() == nil {
					rekeys++
				}
				fallthrough
			default:
				s.carry(n)
				continue
			}
			if err != nil {
				t.Fatal(err)
			}
			asked[n] = append(asked[n], alias)
		}
		s.run()
		for n, want := range asked {
			var got []string
			kinds := map[int]int{}
			for _, e := range s.news(n) {
				kinds[e.Kind]++
				got = append(got, e.Word)
			}
			if !slices.Equal(got, want) || kinds[peer.Granted]+kinds[peer.Denied] != len(want) || kinds[peer.Granted] == 0 || kinds[peer.Denied] == 0 {
				t.Fatalf("%v answers to %.500q: %.500q", kinds, want, got)
			}
		}
		if rekeys == 0 {
			t.Error("no other exchange")
		}
	}
}

// P23.1: a stream through the relay carries all bytes in both directions, and its
// end; then its device ends.
func TestStream(t *testing.T) {
	source := rand.New(rand.NewSource(3))
	for _, divided := range []*rand.Rand{nil, source, source} {
		s := start(t, divided)
		device, client := s.enter(own, "t"), s.enter(own, "t")
		d, c := s.peers[device], s.peers[client]
		if n, err := c.Dial("web", 80); n != 0 || err != nil {
			t.Fatal(n, err)
		}
		s.run()
		if l := s.news(client); !slices.Equal(l, []peer.Event{{Kind: peer.Failed, Reason: 2}}) { // there is no such name
			t.Fatalf("%+v", l)
		}
		d.Forward("web", 80)
		s.run()
		from, err := c.Dial("web", 443)
		s.run()
		want := []peer.Event{granted("web"), {Kind: peer.Asked, Word: "web", Port: 443}}
		if l := s.news(device); err != nil || !slices.Equal(l, want) || d.Accept(0) != nil {
			t.Fatalf("%+v, %v", l, err)
		}
		s.run()
		if l := s.news(client); !slices.Equal(l, []peer.Event{{Kind: peer.Confirmed, Channel: from}}) {
			t.Fatalf("%+v", l)
		}
		s.talk(source, client, from, device, 0)
		if err := c.EOF(from); err != nil {
			t.Fatal(err)
		}
		s.run()
		if l := s.news(device); !slices.Contains(l, peer.Event{Kind: peer.Ended}) {
			t.Fatalf("%+v", l)
		}
		d.End(11)
		s.run()
		if l := s.news(client); !slices.Contains(l, peer.Event{Kind: peer.Closed, Channel: from}) || len(s.Streams())+len(s.Leases()) != 0 {
			t.Fatalf("%+v", l)
		}
	}
}

// talk writes and reads at both ends of a stream until everything has arrived.
func (s *site) talk(source *rand.Rand, client, from, device, to int) {
	s.Helper()
	var said, heard [2]string
	ends := [2]struct{ n, channel int }{{client, from}, {device, to}}
	turn := func(i, most int) {
		e := ends[i]
		p := s.peers[e.n]
		part := strings.Repeat(string(rune('a'+source.Intn(26))), source.Intn(most+1))
		if p.Write(e.channel, part) == nil {
			said[i] += part
		}
		got, err := p.Read(e.channel, source.Intn(60))
		if heard[1-i] += got; err != nil || !strings.HasPrefix(said[1-i], heard[1-i]) {
			s.Fatalf("%q, %v", got, err)
		}
	}
	for range 400 {
		turn(source.Intn(2), 30)
		s.carry(ends[source.Intn(2)].n)
	}
	for range 400 {
		s.run()
		turn(0, 0)
		turn(1, 0)
	}
	if said != heard || len(said[0]) < 1000 || len(said[1]) < 1000 {
		s.Fatalf("%d and %d bytes of %d and %d arrived", len(heard[0]), len(heard[1]), len(said[0]), len(said[1]))
	}
}
