package session_test

import (
	"fmt"
	"math"
	"strings"
	"testing"

	"speakeasy/api"
	"speakeasy/session"
)

// bothKinds runs a test with a server's session and with a client's.
func bothKinds(t *testing.T, test func(t *testing.T, create func(t *testing.T) *end)) {
	t.Run("server", func(t *testing.T) { test(t, server) })
	t.Run("client", func(t *testing.T) { test(t, client) })
}

// P15.1: a new session, and none for what is no software version.
func TestNew(t *testing.T) {
	for _, is := range []bool{false, true} {
		for _, software := range []string{"x", "OpenSSH_9.9", strings.Repeat("x", 64)} {
			e := connect(t, session.Config{Client: is, Software: software, Seed: software})
			e.checkVars(false, 0)
			e.wants()
		}
		for _, software := range []string{"", "-", "a-b", "a b", "a\r\n", "\x00", "é", strings.Repeat("x", 65)} {
			if s, err := session.New(session.Config{Client: is, Software: software}); s != nil || err != api.ErrArg {
				t.Errorf("%q: %v, %v", software, s, err)
			}
		}
	}
}

// P15.1: all of an exchange, and of the further ones, whichever end begins them.
func TestExchanges(t *testing.T) {
	bothKinds(t, func(t *testing.T, create func(t *testing.T) *end) {
		e := create(t)
		e.begin()
		e.checkVars(false, 0)
		e.agree(true)
		e.checkVars(false, 0)
		e.answer()
		e.checkVars(false, 0)
		e.finish()
		e.checkVars(true, 0)
		first := e.id
		for i := range 6 {
			e.above(data("between"))
			if i%2 == 0 {
				e.rekey()
				e.checkVars(false, 0)
			}
			e.agree(i%2 == 0)
			e.checkVars(false, 0)
			e.answer()
			e.checkVars(false, 0)
			e.finish()
			e.checkVars(true, 0)
		}
		if e.id != first || e.hash == first {
			t.Errorf("the id is %x, after it was %x", e.id, first)
		}
	})
}

// P15.1: both ends begin an exchange at once, and one ends with the beginning of the next.
func TestCrossing(t *testing.T) {
	bothKinds(t, func(t *testing.T, create func(t *testing.T) *end) {
		e := opened(create(t))
		for range 3 {
			e.rekey()
			e.above(data("sent before the kexinit came"))
			e.exchange(true)
			e.checkVars(true, 0)
		}
		e.rekey()
		e.agree(true)
		e.answer()
		last := e.packet(newkeys)
		e.w.Seal(e.keys[e.other()])
		e.kexes++
		if l, err := e.feed(last + e.packet(data("a")) + e.packet(ourInit(theirs, e.kexes))); len(l) != 1 || l[0] != data("a") || err != nil {
			t.Fatalf("newkeys, data and kexinit: %q, %v", l, err)
		}
		e.inits[e.other()] = ourInit(theirs, e.kexes)
		want := 1
		if e.c.Client {
			want = 2
		}
		if got := e.sent(); len(got) != want || got[0] != ourInit(e.c.Seed, e.kexes) {
			t.Fatalf("%q was sent", got)
		}
		e.checkVars(false, 0)
		e.answer()
		e.finish()
		e.checkVars(true, 0)
	})
}

// P15.1: an exchange is numbered modulo 256 in its random values.
func TestManyExchanges(t *testing.T) {
	bothKinds(t, func(t *testing.T, create func(t *testing.T) *end) {
		e := opened(create(t))
		for i := range 260 {
			if i%3 == 0 {
				e.rekey()
			}
			e.exchange(i%3 == 0)
		}
		e.checkVars(true, 0)
	})
}

// P15.1: random values depend on nothing but the seed.
func TestSeeds(t *testing.T) {
	for _, seed := range []string{"", "a", "\x00\xff", strings.Repeat("seed", 40)} {
		for _, is := range []bool{false, true} {
			opened(connect(t, session.Config{Client: is, Software: "x", Seed: seed, Host: hosts[0], Pin: publicKey(hosts[0])}))
		}
	}
}

// P15.1: a server uses its Host only, and a client its Pin only.
func TestUnused(t *testing.T) {
	for _, unused := range [][32]byte{{}, {8}, publicKey(hosts[0]), hosts[0]} {
		opened(connect(t, session.Config{Software: "x", Host: hosts[0], Pin: unused}))
		opened(connect(t, session.Config{Client: true, Software: "x", Host: unused, Pin: publicKey(hosts[0])}))
	}
}

// sendable returns a payload of each kind that can be sent.
func sendable() []string {
	return []string{
		"\x05" + text("name"), "\x06" + text("name"),
		"\x32" + text("u") + text("s") + text("m") + "rest", "\x33" + text("a,b") + "\x00", "\x34", "\x35" + text("a") + text(""), "\x3c" + text("a") + text("b"),
		"\x50" + text("x") + "\x01rest", "\x51rest", "\x51", "\x52",
		"\x5a" + text("x") + u32(1) + u32(2) + u32(3), "\x5b" + u32(1) + u32(2) + u32(3) + u32(4), "\x5c" + u32(1) + u32(2) + text("") + text(""),
		"\x5d" + u32(1) + u32(2), data("x"), "\x5f" + u32(1) + u32(1) + text("x"), "\x60" + u32(1), "\x61" + u32(1),
		"\x62" + u32(1) + text("x") + "\x07rest", "\x63" + u32(1), "\x64" + u32(1),
		data(strings.Repeat("a", 32768-9)),
	}
}

// P15.1: payloads are sent at once, and received ones are for the layer above.
func TestPayloads(t *testing.T) {
	bothKinds(t, func(t *testing.T, create func(t *testing.T) *end) {
		e := opened(create(t))
		for range 2 {
			for _, payload := range sendable() {
				if err := e.s.Send(payload); err != nil {
					t.Errorf("%.60q: %v", payload, err)
				}
				e.wants(payload)
				e.above(payload)
				e.wants()
			}
			e.checkVars(true, 0)
			e.exchange(false)
		}
	})
}

// P15.1: payloads wait for the end of an exchange.
func TestQueue(t *testing.T) {
	bothKinds(t, func(t *testing.T, create func(t *testing.T) *end) {
		e := create(t)
		all := sendable()
		waiting := 0
		send := func() {
			t.Helper()
			for range 3 {
				if err := e.s.Send(all[waiting]); err != nil {
					t.Errorf("%.60q: %v", all[waiting], err)
				}
				waiting++
				e.checkVars(false, waiting)
			}
			e.wants()
		}
		send()
		e.begin()
		send()
		e.agree(true)
		send()
		e.answer()
		send()
		e.finish(all[:waiting]...)
		e.checkVars(true, 0)
		for _, own := range []bool{true, false} {
			waiting = 0
			if own {
				e.rekey()
				send()
				e.above(data("received meanwhile"))
			}
			e.agree(own)
			send()
			e.answer()
			send()
			e.finish(all[:waiting]...)
			e.checkVars(true, 0)
			if err := e.s.Send(data("at once")); err != nil {
				t.Errorf("Send: %v", err)
			}
			e.wants(data("at once"))
		}
	})
}

// P15.1: what cannot be sent, at each step, changes nothing.
func TestSendErrors(t *testing.T) {
	tests := []struct {
		payload string
		want    error
	}{
		{bytesOf(32769), api.ErrBig}, {data(strings.Repeat("a", 32768-8)), api.ErrBig}, {strings.Repeat("\x00", 40000), api.ErrBig},
		{"", api.ErrEnd},
		{"\x00", api.ErrKind}, {"\x07", api.ErrKind}, {"\x13", api.ErrKind}, {"\x16abc", api.ErrKind}, {"\x1d", api.ErrKind}, {"\x20", api.ErrKind}, {"\x31", api.ErrKind}, {"\x65", api.ErrKind}, {bytesOf(32768), api.ErrKind},
		{"\x5e", api.ErrEnd}, {data("abc")[:11], api.ErrEnd}, {data("abc") + "d", api.ErrForm}, {"\x34x", api.ErrForm},
		{"\x33" + text("a,,b") + "\x00", api.ErrForm}, {"\x5e" + u32(0) + u32(32769), api.ErrBig},
		{"\x01", api.ErrEnd}, {"\x02" + u32(32769), api.ErrBig}, {"\x03" + u32(1) + "x", api.ErrForm}, {"\x14", api.ErrEnd}, {"\x15x", api.ErrForm}, {"\x1e", api.ErrEnd}, {"\x1f" + text(""), api.ErrEnd},
		{disconnect(11, "x"), api.ErrKind}, {"\x02" + text("x"), api.ErrKind}, {"\x03" + u32(1), api.ErrKind}, {"\x04\x00" + text("") + text(""), api.ErrKind},
		{ourInit(theirs, 0), api.ErrKind}, {newkeys, api.ErrKind}, {ecdhInit("x"), api.ErrKind}, {ecdhReply("a", "b", "c"), api.ErrKind},
	}
	bothKinds(t, func(t *testing.T, create func(t *testing.T) *end) {
		for _, p := range places() {
			e := p.reach(create(t))
			before := e.s.Vars()
			for _, test := range tests {
				if err := e.s.Send(test.payload); err != test.want {
					t.Errorf("%s: %.60q: %v, not %v", p.name, test.payload, err, test.want)
				}
			}
			if e.s.Vars() != before {
				t.Errorf("%s: %+v, after %+v", p.name, e.s.Vars(), before)
			}
			e.wants()
		}
	})
}

// P15.1: Rekey, at each step.
func TestRekey(t *testing.T) {
	bothKinds(t, func(t *testing.T, create func(t *testing.T) *end) {
		for _, p := range places() {
			e := p.reach(create(t))
			before := e.s.Vars()
			if before.Open {
				e.rekey()
				before = e.s.Vars()
				if before.Open {
					t.Errorf("%s: open during an exchange", p.name)
				}
			}
			for range 2 {
				if err := e.s.Rekey(); err != api.ErrState {
					t.Errorf("%s: %v", p.name, err)
				}
			}
			if e.s.Vars() != before {
				t.Errorf("%s: %+v, after %+v", p.name, e.s.Vars(), before)
			}
			e.wants()
		}
	})
}

// P15.1, P15.3: Close, at each step, and with payloads that wait.
func TestClose(t *testing.T) {
	long := strings.Repeat("0123456789abcdef", 1025)
	bothKinds(t, func(t *testing.T, create func(t *testing.T) *end) {
		for _, p := range places() {
			for i, length := range []int{0, 1, 16383, 16384, 16385, len(long)} {
				e := p.reach(create(t))
				v := e.s.Vars()
				var want []string
				if i%2 == 1 {
					e.s.Send(data("before"))
					if v.Open {
						want = append(want, data("before"))
					}
				}
				reason := []uint32{0, 2, 11, math.MaxUint32}[i%4]
				e.s.Close(reason, long[:length])
				want = append(want, disconnect(reason, long[:min(length, 16384)]))
				e.checkGone(fmt.Sprintf("%s, %d bytes", p.name, length), want...)
				if after := e.s.Vars(); after.Kexes != v.Kexes || after.ID != v.ID || after.Key != v.Key {
					t.Errorf("%s: %+v, after %+v", p.name, after, v)
				}
			}
		}
		e := create(t)
		e.s.Close(1, "\x00\xff\r\n")
		e.checkGone("any bytes", disconnect(1, "\x00\xff\r\n"))
	})
}

// P15.1: Out returns all bytes once, however often it is called.
func TestOut(t *testing.T) {
	bothKinds(t, func(t *testing.T, create func(t *testing.T) *end) {
		e := opened(create(t))
		var want []string
		for i := range 5 {
			payload := data(strings.Repeat("x", i))
			e.s.Send(payload)
			want = append(want, payload)
		}
		e.wants(want...)
		for range 3 {
			if out := e.s.Out(); out != "" {
				t.Errorf("Out again: %q", out)
			}
		}
	})
}

// every returns a session of that kind with Every, after the first exchange.
func every(t *testing.T, create func(t *testing.T) *end, n int) *end {
	t.Helper()
	c := create(t).c
	c.Every = n
	return opened(connect(t, c))
}

// P15.1: after as many packets as Every the session begins an exchange.
func TestEvery(t *testing.T) {
	bothKinds(t, func(t *testing.T, create func(t *testing.T) *end) {
		for n := 1; n < 6; n++ {
			e := every(t, create, n)
			for range 3 {
				for i := range n {
					if !e.s.Vars().Open {
						t.Fatalf("every %d: not open before packet %d", n, i)
					}
					e.s.Send("")
					e.s.Send(newkeys)
					e.s.Send(data("x"))
					want := []string{data("x")}
					if i == n-1 {
						want = append(want, ourInit(e.c.Seed, e.kexes))
					}
					e.wants(want...)
				}
				e.checkVars(false, 0)
				e.exchange(true)
				e.checkVars(true, 0)
			}
		}
		for _, n := range []int{0, -1, math.MinInt, math.MaxInt} {
			e := every(t, create, n)
			for range 50 {
				e.s.Send(data("x"))
				e.wants(data("x"))
			}
			e.checkVars(true, 0)
		}
	})
}

// P15.1: all packets count since the last exchange, but only behind a payload the
// next one begins.
func TestEveryCount(t *testing.T) {
	bothKinds(t, func(t *testing.T, create func(t *testing.T) *end) {
		e := every(t, create, 4)
		unknown := func(times int) {
			t.Helper()
			for range times {
				number := uint32(e.w.Count())
				e.quietly("\xc8")
				e.wants("\x03" + u32(number))
			}
		}
		unknown(3)
		e.s.Send(data("x"))
		e.wants(data("x"), ourInit(e.c.Seed, 1))
		unknown(6)
		e.exchange(true)
		for range 2 {
			e.s.Send(data("y"))
			e.wants(data("y"))
		}
		e.exchange(false) // starts the count again, although the other end has begun it
		e.s.Send(data("y"))
		e.wants(data("y"))
		unknown(9)
		e.checkVars(true, 0)
		e.s.Send(data("z"))
		e.wants(data("z"), ourInit(e.c.Seed, 3))
	})
}

// P15.1: payloads that wait are sent up to the one behind which an exchange begins.
func TestEveryQueue(t *testing.T) {
	bothKinds(t, func(t *testing.T, create func(t *testing.T) *end) {
		c := create(t).c
		c.Every = 2
		e := connect(t, c)
		e.begin()
		var all []string
		for i := range 7 {
			all = append(all, data(strings.Repeat("x", i)))
			e.s.Send(all[i])
		}
		e.exchange(true, all[0], all[1], ourInit(c.Seed, 1))
		e.checkVars(false, 5)
		e.s.Send(data("last"))
		e.exchange(true, all[2], all[3], ourInit(c.Seed, 2))
		e.checkVars(false, 4)
		e.exchange(true, all[4], all[5], ourInit(c.Seed, 3))
		e.checkVars(false, 2)
		e.exchange(true, all[6], data("last"), ourInit(c.Seed, 4))
		e.checkVars(false, 0)
		e.exchange(true)
		e.checkVars(true, 0)
	})
}
