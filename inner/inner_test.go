package inner_test

import (
	"math"
	"math/rand"
	"slices"
	"strings"
	"testing"

	"speakeasy/api"
	"speakeasy/inner"
	"speakeasy/message"
)

// eachEnd runs a test for a client and for a device.
func eachEnd(t *testing.T, test func(t *testing.T, client bool)) {
	t.Helper()
	for name, client := range map[string]bool{"client": true, "device": false} {
		t.Run(name, func(t *testing.T) { test(t, client) })
	}
}

// stages are the ways to create a pair, the last of them with an exchange.
func stages() []func(*testing.T, bool) *pair {
	return []func(*testing.T, bool) *pair{begin, connect}
}

// P24.1: a new end sends its version line and a kexinit, and nothing else.
func TestNew(t *testing.T) {
	eachEnd(t, func(t *testing.T, client bool) {
		for _, seed := range []string{"", "seed", "\x00\xff", strings.Repeat("x", 1000)} {
			c := config(client)
			c.Seed = seed
			p := &pair{T: t, Inner: inner.New(c), twin: create(t, like(c)), other: create(t, like(config(!client)))}
			p.is(false, false)
			if p.ID() != [32]byte{} || p.Waits() != 0 || p.Read(9) != "" {
				t.Errorf("%x, %d", p.ID(), p.Waits())
			}
			out := p.Out()
			line, rest, _ := strings.Cut(out, "\r\n")
			if out != p.twin.Out() || line != "SSH-2.0-inner" || len(rest) < 6 || rest[5] != 20 {
				t.Errorf("%q", out)
			}
			p.sends()
			p.other.Feed(out)
			p.feeds(p.other.Out())
			p.exchange()
			p.is(true, false)
		}
	})
}

// P24.1: an end is ready as soon as its exchange is complete, until it is gone, also
// during other exchanges; the id stays.
func TestReady(t *testing.T) {
	eachEnd(t, func(t *testing.T, client bool) {
		p := begin(t, client)
		for p.twin.Vars().Kexes == 0 {
			p.is(false, false)
			p.sends()
			p.is(false, false)
			s := p.other.Out()
			for i := range len(s) {
				p.feeds(s[i : i+1])
				p.is(p.twin.Vars().Kexes > 0, false)
			}
		}
		p.sends()
		id := p.ID()
		for range 2 {
			if a, b := p.Rekey(), p.Rekey(); a != nil || b != api.ErrState {
				t.Errorf("%v, %v", a, b)
			}
			p.twin.Rekey()
			p.is(true, false)
			for range 3 {
				p.sends()
				p.is(true, false)
				p.feeds(p.other.Out())
				p.is(true, false)
			}
			p.sends()
		}
		if v := p.other.Vars(); v.Kexes != 3 || !v.Open || v.ID != id || p.ID() != id {
			t.Errorf("%+v, %x", v, id)
		}
	})
}

// P24.1: Rekey is that of the session.
func TestRekey(t *testing.T) {
	eachEnd(t, func(t *testing.T, client bool) {
		p := begin(t, client)
		if a, b := p.Rekey(), p.Rekey(); a != api.ErrState || b != api.ErrState {
			t.Errorf("%v, %v", a, b)
		}
		p.exchange()
		p.is(true, false)
	})
}

// P24.1: what is written is sent in messages of at most 16000 bytes.
func TestWrite(t *testing.T) {
	source := rand.New(rand.NewSource(24))
	eachEnd(t, func(t *testing.T, client bool) {
		p := connect(t, client)
		for _, n := range []int{0, 1, 2, 15999, 16000, 16001, 31999, 32000, 32001, 48000, 100000} {
			s := letters(source, n)
			if err := p.Write(s); err != nil {
				t.Fatal(err)
			}
			var want []message.Msg
			for i := 0; i < n; i += 16000 {
				want = append(want, data(0, s[i:min(i+16000, n)]))
			}
			p.sends(want...)
		}
		p.Write("a")
		p.Write("")
		p.Write("bc")
		p.sends(data(0, "a"), data(0, "bc"))
	})
}

// P24.1: an end does not exchange keys again unless it is told to.
func TestNoExchange(t *testing.T) {
	eachEnd(t, func(t *testing.T, client bool) {
		p := connect(t, client)
		var want []message.Msg
		for range 5000 {
			p.Write("x")
			want = append(want, data(0, "x"))
		}
		p.sends(want...)
		if v := p.other.Vars(); v.Kexes != 1 || !v.Open {
			t.Errorf("%+v", v)
		}
	})
}

// P24.1: what is written during an exchange waits for its end.
func TestWriteEarly(t *testing.T) {
	eachEnd(t, func(t *testing.T, client bool) {
		p := begin(t, client)
		long := strings.Repeat("x", 16000)
		for _, s := range []string{"early", "", long + "y"} {
			if err := p.Write(s); err != nil {
				t.Fatal(err)
			}
		}
		p.sends(data(0, "early"), data(0, long), data(0, "y"))
		if len(p.got) != 0 {
			t.Fatalf("%.100q", p.got)
		}
		p.exchange()
		p.Rekey()
		p.twin.Rekey()
		if err := p.Write("late"); err != nil {
			t.Fatal(err)
		}
		p.sends(data(0, "late"))
		if len(p.got) != 3 {
			t.Fatalf("%.100q", p.got)
		}
		p.feeds(p.other.Out())
		p.exchange()
		want := []string{data(0, "early").Bytes(), data(0, long).Bytes(), data(0, "y").Bytes(), data(0, "late").Bytes()}
		if !slices.Equal(p.got, want) {
			t.Errorf("%.100q", p.got)
		}
	})
}

// P24.1: data for channel 0 are received, however long they are.
func TestData(t *testing.T) {
	source := rand.New(rand.NewSource(7))
	eachEnd(t, func(t *testing.T, client bool) {
		p := connect(t, client)
		for _, n := range []int{0, 1, 100, 16000, 16001, 32000, 32759} {
			s := letters(source, n)
			p.feeds(p.packets(data(0, s)))
			p.has(s)
		}
		p.feeds(p.packets(data(0, "a"), data(0, ""), data(0, "bcd")))
		p.feeds(p.packets(data(0, "e")))
		p.has("abcde")
		p.sends()
	})
}

// P24.1: Read takes at most n bytes, none if n is negative.
func TestRead(t *testing.T) {
	p := connect(t, true)
	p.feeds(p.packets(data(0, "0123456789"), data(0, "abcdef")))
	for _, part := range []struct {
		n    int
		s    string
		left int
	}{{-1, "", 16}, {math.MinInt, "", 16}, {0, "", 16}, {1, "0", 15}, {11, "123456789ab", 4}, {5, "cdef", 0}, {1, "", 0}, {math.MaxInt, "", 0}} {
		if s := p.Read(part.n); s != part.s || p.Waits() != part.left {
			t.Errorf("%d: %q, %d left", part.n, s, p.Waits())
		}
	}
	p.feeds(p.packets(data(0, "xyz")))
	if s := p.Read(math.MaxInt); s != "xyz" || p.Waits() != 0 {
		t.Errorf("%q, %d left", s, p.Waits())
	}
}

// P24.1: what is received and not read is not limited, as a session cannot refuse it.
func TestMuchData(t *testing.T) {
	p := connect(t, false)
	part := strings.Repeat("x", 32000)
	for range 600 { // more than a channel's buffer can have
		p.feeds(p.packets(data(0, part)))
	}
	if n := p.Waits(); n != 600*32000 {
		t.Errorf("%d bytes wait", n)
	}
	if s := p.Read(math.MaxInt); len(s) != 600*32000 || strings.Trim(s, "x") != "" {
		t.Errorf("%d bytes", len(s))
	}
}

// everyKind returns a message of each kind that a session passes on.
func everyKind(t *testing.T) map[int]message.Msg {
	t.Helper()
	l := map[int]message.Msg{}
	for kind := range 256 {
		fields, ok := message.Fields(kind)
		if !ok || kind < 5 || kind >= 20 && kind <= 31 {
			continue
		}
		m := message.Msg{Kind: kind}
		for i := range len(fields) {
			switch fields[i] {
			case 'u':
				m.U = append(m.U, 0)
			case 's', 'r':
				m.S = append(m.S, "x")
			case 'n':
				m.N = append(m.N, nil)
			case 'b':
				m.B = append(m.B, true)
			}
		}
		l[kind] = m
	}
	return l
}

// P24.1: each kind of message, and each channel.
func TestKinds(t *testing.T) {
	eachEnd(t, func(t *testing.T, client bool) {
		kinds := everyKind(t)
		if len(kinds) < 20 {
			t.Fatalf("%d kinds", len(kinds))
		}
		for kind, m := range kinds {
			p := connect(t, client)
			if kind == 94 {
				p.feeds(p.packets(m))
				p.has("x")
				continue
			}
			p.broken(p.packets(m), api.ErrKind, "")
		}
		for _, n := range []uint32{1, 2, 256, 1 << 24, 1 << 31, 1<<32 - 1} {
			p := connect(t, client)
			p.broken(p.packets(data(n, "x")), api.ErrKind, "")
		}
	})
}

// P24.1: messages before one that is an error are received, those behind it are not.
func TestFirstError(t *testing.T) {
	eachEnd(t, func(t *testing.T, client bool) {
		for _, wrong := range []message.Msg{data(1, "c"), {Kind: 52}, {Kind: 95, U: []uint32{0, 1}, S: []string{"c"}}, {Kind: 96, U: []uint32{0}}} {
			p := connect(t, client)
			p.feeds(p.packets(data(0, "a")))
			p.broken(p.packets(data(0, "b"), wrong, data(0, "d"), data(2, "e")), api.ErrKind, "ab")
		}
	})
}

// P24.1: a message that is an error before an error of the session is the first one,
// and the session has sent the only disconnect.
func TestTwoErrors(t *testing.T) {
	eachEnd(t, func(t *testing.T, client bool) {
		p := connect(t, client)
		p.broken(p.packets(data(0, "a"), data(7, "b"), data(0, "c"))+strings.Repeat("\xff", 64), api.ErrKind, "a")
		p = connect(t, client)
		s := p.packets(data(0, "a"), data(7, "b"))
		p.other.Close(11, "")
		p.broken(s+p.other.Out(), api.ErrKind, "a")
	})
}

// P24.1: errors of the session, and the bytes before them.
func TestSessionErrors(t *testing.T) {
	eachEnd(t, func(t *testing.T, client bool) {
		p := begin(t, client)
		p.sends()
		p.broken("SSH-1.0-x\r\n", api.ErrVersion, "", "session")
		p = begin(t, client)
		p.sends()
		p.broken("\x00\n", api.ErrForm, "", "session")
		p = connect(t, client)
		p.broken(p.packets(data(0, "abc"))+strings.Repeat("\x00", 100), api.ErrForm, "abc", "session", "packet")
		p = connect(t, client)
		s := p.packets(data(0, "abc")) + strings.Repeat("\xff", 4)
		p.broken(s, api.ErrBig, "abc", "session", "packet")
		p = connect(t, client)
		s = p.packets(data(0, "abc"))
		p.other.Close(11, "bye")
		p.broken(s+p.other.Out(), api.ErrGone, "abc", "session")
		p = connect(t, client)
		s = p.packets(data(0, "abc"))
		last := []byte(p.packets(data(0, "def")))
		last[len(last)-1] ^= 128
		p.broken(s+string(last), api.ErrMac, "abc", "session", "packet")
	})
}

// P24.1: End sends a disconnect, at any time; received bytes can still be read.
func TestEnd(t *testing.T) {
	eachEnd(t, func(t *testing.T, client bool) {
		for _, create := range stages() {
			p := create(t, client)
			p.End()
			p.is(false, true)
			p.twin.Close(11, "")
			p.sends()
			p.over()
		}
		p := connect(t, client)
		p.feeds(p.packets(data(0, "abc")))
		p.Write("def")
		p.Rekey()
		p.Write("ghi")
		p.End()
		p.twin.Send(data(0, "def").Bytes())
		p.twin.Rekey()
		p.twin.Close(11, "")
		p.sends()
		p.over()
		p.has("abc")
	})
}

// P24.1: what an end does is the same for each division of the bytes.
func TestDivisions(t *testing.T) {
	c, d := inner.New(config(true)), inner.New(config(false))
	s := ""
	for range 3 {
		part := c.Out()
		s += part
		d.Feed(part)
		c.Feed(d.Out())
	}
	long := strings.Repeat("d", 200)
	c.Write("abc")
	c.Write(long)
	c.Rekey()
	s += c.Out()
	whole := inner.New(config(false))
	if err := whole.Feed(s); err != nil || whole.Read(300) != "abc"+long || whole.ID() != d.ID() {
		t.Fatalf("%v, %x", err, whole.ID())
	}
	out := whole.Out()
	for at := 0; at < len(s); at += 3 {
		got, end := inner.New(config(false)), min(at+at*31%90, len(s))
		x, y, z := got.Feed(s[:at]), got.Feed(s[at:end]), got.Feed(s[end:])
		if x != nil || y != nil || z != nil || got.Out() != out || got.Read(300) != "abc"+long {
			t.Fatalf("divided at %d: %v, %v, %v", at, x, y, z)
		}
	}
}
