package inner_test

import (
	"errors"
	"fmt"
	"math/rand"
	"strings"
	"testing"

	"speakeasy/api"
	"speakeasy/edsign"
	"speakeasy/inner"
)

// both is a client and a device, and the bytes that are on their way between them.
type both struct {
	*testing.T
	source *rand.Rand
	ends   [2]*inner.Inner
	way    [2]string // to the device, and to the client
	wrong  [2]error
}

func join(t *testing.T, source *rand.Rand, c, d inner.Config) *both {
	return &both{T: t, source: source, ends: [2]*inner.Inner{inner.New(c), inner.New(d)}}
}

// carry transports some of the bytes that an end has sent.
func (b *both) carry(from int) {
	b.way[from] += b.ends[from].Out()
	n := b.source.Intn(len(b.way[from]) + 1)
	if b.source.Intn(3) == 0 {
		n = min(n, 20)
	}
	b.deliver(from, n)
}

func (b *both) deliver(from, n int) {
	part := b.way[from][:n]
	b.way[from] = b.way[from][n:]
	if to := b.ends[1-from]; !to.Gone() {
		b.wrong[1-from] = to.Feed(part)
	}
}

// run transports all bytes.
func (b *both) run() {
	for range 20 {
		for from := range b.ends {
			b.way[from] += b.ends[from].Out()
			b.deliver(from, len(b.way[from]))
		}
	}
}

// P24.2: what is written at one end is read at the other one, in order, with any
// divisions and exchanges.
func TestBoth(t *testing.T) {
	source := rand.New(rand.NewSource(242))
	rekeys := 0
	for round := range 20 {
		c, d := config(true), config(false)
		c.Seed, d.Seed = fmt.Sprint("c", round), fmt.Sprint("d", round)
		b := join(t, source, c, d)
		var said, heard [2]string
		for range 200 {
			i := source.Intn(2)
			e := b.ends[i]
			switch source.Intn(8) {
			case 0:
				s := letters(source, source.Intn(300))
				if source.Intn(10) == 0 {
					s = letters(source, source.Intn(50000))
				}
				if err := e.Write(s); err != nil {
					t.Fatal(err)
				}
				said[i] += s
			case 1:
				if source.Intn(4) == 0 && e.Rekey() == nil {
					rekeys++
				}
			case 2, 3:
				heard[1-i] += e.Read(source.Intn(500))
			default:
				b.carry(i)
			}
			if !strings.HasPrefix(said[i], heard[i]) || b.wrong != [2]error{} {
				t.Fatalf("%d bytes are no prefix of %d; %v", len(heard[i]), len(said[i]), b.wrong)
			}
		}
		b.run()
		for i, e := range b.ends {
			heard[1-i] += e.Read(1 << 30)
			if !e.Ready() || e.ID() != b.ends[1-i].ID() || e.Out() != "" {
				t.Fatalf("%v, %x", e.Ready(), e.ID())
			}
		}
		if said != heard || said[0] == "" || said[1] == "" {
			t.Fatalf("%d and %d bytes, not %d and %d", len(heard[0]), len(heard[1]), len(said[0]), len(said[1]))
		}
	}
	if rekeys < 20 {
		t.Errorf("%d exchanges", rekeys)
	}
}

// P24.2: an end that has ended is followed by the other one, behind all bytes.
func TestBothEnd(t *testing.T) {
	for i := range 2 {
		b := join(t, nil, config(true), config(false))
		b.run()
		b.ends[i].Write("the last bytes")
		b.ends[i].End()
		b.run()
		e := b.ends[1-i]
		if !e.Gone() || e.Ready() || !errors.Is(b.wrong[1-i], api.ErrGone) || e.Read(99) != "the last bytes" {
			t.Errorf("%v, %v", e.Gone(), b.wrong)
		}
	}
}

// P24.3: a client is ready only with the host key that it expects.
func TestPinned(t *testing.T) {
	source := rand.New(rand.NewSource(243))
	keys := [][32]byte{edsign.Key(host), edsign.Key(thief), {}, host}
	near := edsign.Key(host)
	for i := range 256 {
		near[i/8] ^= 1 << (i % 8)
		keys = append(keys, near)
		near[i/8] ^= 1 << (i % 8)
	}
	for i, pin := range keys {
		for _, seed := range [][32]byte{host, thief} {
			if i > 3 && seed == thief {
				continue
			}
			c, d := config(true), config(false)
			c.Pin, d.Host = pin, seed
			b := join(t, source, c, d)
			b.ends[0].Write("a secret")
			b.ends[1].Write("a lie")
			for !b.ends[0].Gone() && !b.ends[0].Ready() {
				b.carry(0)
				b.carry(1)
			}
			b.run()
			fits := pin == edsign.Key(seed)
			if b.ends[0].Ready() != fits || b.ends[0].Gone() == fits || !fits && !errors.Is(b.wrong[0], api.ErrHost) {
				t.Fatalf("%x: ready %v, gone %v, %v", pin, b.ends[0].Ready(), b.ends[0].Gone(), b.wrong)
			}
			told, heard := b.ends[0].Read(99), b.ends[1].Read(99)
			if fits && (told != "a lie" || heard != "a secret") || !fits && told+heard != "" || b.ends[1].Ready() != fits {
				t.Fatalf("%x: %q, %q", pin, told, heard)
			}
		}
	}
}

// P24.3: a client that becomes ready although a byte to it was changed has completed
// the very exchange of the device: the byte was one of padding.
func TestPinnedChanges(t *testing.T) {
	source := rand.New(rand.NewSource(7))
	ready := 0
	for at := 0; ; at++ {
		b := join(t, source, config(true), config(false))
		sent := b.change(at)
		if at >= sent {
			break
		}
		c, d := b.ends[0], b.ends[1]
		if !c.Ready() {
			continue
		}
		if ready++; !d.Ready() || c.ID() != d.ID() {
			t.Fatalf("byte %d: %x and %x", at, c.ID(), d.ID())
		}
	}
	if ready == 0 || ready > 40 {
		t.Errorf("ready after %d changes", ready)
	}
}

// change transports all bytes of the first exchange, of which one to the client is
// changed. It returns the number of bytes to the client.
func (b *both) change(at int) int {
	sent := 0
	for range 4 {
		b.way[0] = b.ends[0].Out()
		b.deliver(0, len(b.way[0]))
		part := []byte(b.ends[1].Out())
		if i := at - sent; 0 <= i && i < len(part) {
			part[i] ^= 1 << b.source.Intn(8)
		}
		sent += len(part)
		b.way[1] = string(part)
		b.deliver(1, len(part))
	}
	return sent
}
