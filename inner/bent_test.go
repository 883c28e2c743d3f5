package inner_test

import (
	"encoding/binary"
	"errors"
	"math/rand"
	"strings"
	"testing"

	"speakeasy/api"
	"speakeasy/inner"
)

// sent is what an end has sent after the exchange: the strings, and the packet of
// each of them.
type sent struct{ strings, packets []string }

// talk lets an end send some strings.
func talk(source *rand.Rand, e *inner.Inner) sent {
	var l sent
	for range 3 + source.Intn(4) {
		s := letters(source, source.Intn(40))
		if s == "" {
			s = "x"
		}
		e.Write(s)
		l.strings = append(l.strings, s)
		l.packets = append(l.packets, e.Out())
	}
	return l
}

// opened returns how many of the packets are the first ones of some bytes, and the
// bytes behind them.
func (l sent) opened(bytes string) (int, string) {
	for n, p := range l.packets {
		rest, ok := strings.CutPrefix(bytes, p)
		if !ok {
			return n, bytes
		}
		bytes = rest
	}
	return len(l.packets), bytes
}

// wrong returns the error to which bytes lead that do not begin with a packet that
// can be opened.
func wrong(bytes string) error {
	if len(bytes) < 4 {
		return nil
	}
	length := int(binary.BigEndian.Uint32([]byte(bytes)))
	switch {
	case length > 33024:
		return api.ErrBig
	case length < 8 || length%8 != 0:
		return api.ErrForm
	case len(bytes) < 4+length+16:
		return nil
	}
	return api.ErrMac
}

// ready returns two ends after an exchange without interference.
func ready(t *testing.T, source *rand.Rand) *both {
	t.Helper()
	b := join(t, source, config(true), config(false))
	b.run()
	if !b.ends[0].Ready() || !b.ends[1].Ready() {
		t.Fatal("not ready")
	}
	return b
}

// replace gives other bytes than those that were sent to an end, and checks what is
// received.
func (b *both) replace(to int, l sent, bytes string) {
	b.Helper()
	e := b.ends[to]
	n, rest := l.opened(bytes)
	var err error
	for bytes != "" && err == nil {
		size := len(bytes)
		if b.source.Intn(2) == 0 {
			size = 1 + b.source.Intn(size)
		}
		err = e.Feed(bytes[:size])
		bytes = bytes[size:]
	}
	if want := wrong(rest); !errors.Is(err, want) || (err != nil) != e.Gone() || err != nil && api.Where(err) != "inner" {
		b.Fatalf("%v, not %v; %d packets can be opened", err, want, n)
	}
	want := strings.Join(l.strings[:n], "")
	if got := e.Read(e.Waits()); got != want {
		b.Fatalf("%q was received, not %q", got, want)
	}
}

// P24.4: each bit of what is sent is changed, one at a time.
func TestBits(t *testing.T) {
	source := rand.New(rand.NewSource(1))
	for at := 0; ; at++ {
		for to := range 2 {
			b := ready(t, rand.New(rand.NewSource(2)))
			l := talk(b.source, b.ends[1-to])
			bytes := []byte(strings.Join(l.packets, ""))
			if at >= len(bytes) {
				return
			}
			bytes[at] ^= 1 << source.Intn(8)
			b.source = source
			b.replace(to, l, string(bytes))
		}
	}
}

// bend returns other bytes than those of the packets.
func bend(source *rand.Rand, packets []string, foreign string) string {
	all := strings.Join(packets, "")
	at, to, i := source.Intn(len(all)+1), source.Intn(len(all)+1), source.Intn(len(packets))
	at, to = min(at, to), max(at, to)
	switch source.Intn(10) {
	case 0:
		return all[:at] // the rest is missing
	case 1:
		return all[:at] + all[to:]
	case 2:
		return all[:to] + all[at:] // a part is repeated
	case 3:
		return all[:at] + letters(source, to-at) + all[to:]
	case 4:
		return all[:at] + letters(source, source.Intn(9)) + all[at:]
	case 5:
		return strings.Join(packets[:i], "") + strings.Join(packets[i+1:], "")
	case 6:
		return strings.Join(packets[:i+1], "") + strings.Join(packets[i:], "")
	case 7:
		return strings.Join(packets[:i], "") + foreign + strings.Join(packets[i:], "")
	case 8:
		p := append([]string(nil), packets...)
		source.Shuffle(len(p), func(i, j int) { p[i], p[j] = p[j], p[i] })
		return strings.Join(p, "")
	}
	return all
}

// P24.4: after an exchange, other bytes: exactly the strings of the packets that can
// be opened are received, up to the first one that cannot.
func TestBent(t *testing.T) {
	source := rand.New(rand.NewSource(244))
	for round := range 500 {
		b := ready(t, source)
		to := round % 2
		mirror := talk(source, b.ends[to]) // which has the other key
		l := talk(source, b.ends[1-to])
		foreign := []string{mirror.packets[0], letters(source, 30), "SSH-2.0-inner\r\n", inner.New(config(to == 1)).Out(), "\x00\x00\x00\x0c\x0aa" + strings.Repeat("\x00", 10)}
		b.replace(to, l, bend(source, l.packets, foreign[source.Intn(len(foreign))]))
	}
}

// P24.4: the packets of one session cannot be opened in another one of the same ends.
func TestOtherSession(t *testing.T) {
	source := rand.New(rand.NewSource(3))
	a := ready(t, source)
	c := config(true)
	c.Seed = "another"
	b := join(t, source, c, config(false))
	b.run()
	for to := range 2 {
		l := talk(source, a.ends[1-to])
		if err := b.ends[to].Feed(strings.Join(l.packets, "")); !errors.Is(err, api.ErrMac) || b.ends[to].Waits() != 0 {
			t.Errorf("%v, %d", err, b.ends[to].Waits())
		}
	}
}
