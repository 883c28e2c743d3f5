package session_test

import (
	"fmt"
	"math/rand"
	"slices"
	"strings"
	"testing"

	"speakeasy/api"
	"speakeasy/session"
)

// pair is a client and a server, and what was sent by each of them, but has not
// arrived yet.
type pair struct {
	*testing.T
	s    [2]*session.Session
	wire [2]string
	sent [2][]string // payloads
	got  [2][]string // payloads that were sent by this end
}

func newPair(t *testing.T, every [2]int, seed int) *pair {
	t.Helper()
	client, err := session.New(session.Config{Client: true, Software: "cli", Seed: fmt.Sprint("c", seed), Pin: publicKey(hosts[0]), Every: every[0]})
	if err != nil {
		t.Fatal(err)
	}
	server, err := session.New(session.Config{Software: "srv", Seed: fmt.Sprint("s", seed), Host: hosts[0], Every: every[1]})
	if err != nil {
		t.Fatal(err)
	}
	return &pair{T: t, s: [2]*session.Session{client, server}}
}

// say sends a payload from an end.
func (p *pair) say(end int, payload string) {
	p.Helper()
	if err := p.s[end].Send(payload); err != nil {
		p.Fatalf("Send: %v", err)
	}
	p.sent[end] = append(p.sent[end], payload)
}

// carry brings at most n bytes from an end to the other one, and reports whether
// there were any.
func (p *pair) carry(from, n int) bool {
	p.Helper()
	p.wire[from] += p.s[from].Out()
	part := p.wire[from][:min(n, len(p.wire[from]))]
	p.wire[from] = p.wire[from][len(part):]
	l, err := p.s[1-from].Feed(part)
	if err != nil {
		p.Fatalf("Feed: %v", err)
	}
	p.got[from] = append(p.got[from], l...)
	if len(p.got[from]) > len(p.sent[from]) || !slices.Equal(p.got[from], p.sent[from][:len(p.got[from])]) {
		p.Fatalf("%.200q arrived, not %.200q", p.got[from], p.sent[from])
	}
	return part != ""
}

// settle carries everything, in parts of at most n bytes, and checks that all has
// arrived.
func (p *pair) settle(n int) {
	p.Helper()
	for p.carry(0, n) || p.carry(1, n) {
	}
	for end := range 2 {
		if !slices.Equal(p.got[end], p.sent[end]) {
			p.Fatalf("%d payloads of %d have arrived", len(p.got[end]), len(p.sent[end]))
		}
	}
	a, b := p.s[0].Vars(), p.s[1].Vars()
	if a != b || !a.Open || a.Gone || a.Waits != 0 || a.Kexes == 0 || a.ID == [32]byte{} || a.Key != publicKey(hosts[0]) {
		p.Fatalf("%+v and %+v", a, b)
	}
}

// P15.2: two ends, with parts of any size.
func TestTwo(t *testing.T) {
	for seed, n := range []int{1, 2, 3, 7, 8, 16, 100, 1 << 20} {
		p := newPair(t, [2]int{}, seed)
		p.say(0, data("early"))
		p.say(1, data("also early"))
		p.settle(n)
		id := p.s[0].Vars().ID
		for end := range 2 {
			p.say(end, data("x"))
			if p.s[end].Rekey() != nil {
				t.Errorf("Rekey")
			}
			p.say(end, data("y"))
			p.say(1-end, data("z"))
			p.settle(n)
		}
		if p.s[0].Rekey() != nil || p.s[1].Rekey() != nil {
			t.Errorf("Rekey")
		}
		for _, payload := range sendable() {
			if n > 8 || len(payload) < 1000 {
				p.say(0, payload)
				p.say(1, payload)
			}
		}
		p.settle(n)
		if v := p.s[1].Vars(); v.ID != id || v.Kexes != 4 {
			t.Errorf("%+v; the id was %x", v, id)
		}
	}
}

// P15.2: any calls in any order, and any divisions.
func TestTwoRandom(t *testing.T) {
	source := rand.New(rand.NewSource(15))
	for seed := range 40 {
		p := newPair(t, [2]int{source.Intn(8), source.Intn(8) - 1}, seed)
		for step := range 120 {
			end := source.Intn(2)
			switch source.Intn(8) {
			case 0, 1:
				p.say(end, data(fmt.Sprint(end, step)+strings.Repeat("x", source.Intn(50))))
			case 2:
				before := p.s[end].Vars()
				err := p.s[end].Rekey()
				if before.Open && err != nil || !before.Open && err != api.ErrState {
					t.Fatalf("Rekey: %v, after %+v", err, before)
				}
			case 3:
				p.carry(end, 1<<20)
			default:
				p.carry(end, source.Intn(200))
			}
		}
		p.settle(1 + source.Intn(300))
	}
}

// P15.1: the same calls make sessions send the same bytes.
func TestDeterministic(t *testing.T) {
	bothKinds(t, func(t *testing.T, create func(t *testing.T) *end) {
		e := history(create(t))
		first := replay(t, e.c, e.fed)
		for range 3 {
			if again := replay(t, e.c, e.fed); again != first {
				t.Errorf("%+v, after %+v", again, first)
			}
		}
	})
}

// told is all that a session has returned and sent.
type told struct {
	payloads, out string
	vars          session.Vars
	err           fault
}

// replay feeds a new session with all bytes, in parts that end where it is said.
func replay(t *testing.T, c session.Config, s string, ends ...int) told {
	t.Helper()
	x, err := session.New(c)
	if err != nil {
		t.Fatal(err)
	}
	var r told
	fed := 0
	for _, end := range append(ends, len(s)) {
		l, err := x.Feed(s[fed:end])
		fed = end
		for _, payload := range l {
			r.payloads += payload + "|"
		}
		if err != nil {
			r.err = faultOf(err)
			break
		}
	}
	r.out, r.vars = x.Out(), x.Vars()
	return r
}

// history is a session with all kinds of messages, and its end e, from which the
// bytes that it was given can be taken.
func history(e *end) *end {
	e.Helper()
	e.begin()
	e.quietly("\x02" + text("ignored"))
	e.quietly("\xee")
	e.sent()
	e.exchange(true)
	e.above(data("first"))
	e.agree(false)
	e.quietly("\xc8")
	e.sent()
	e.answer()
	e.finish()
	e.above(data("second"))
	return e
}

// P15.1, P15.2: what a session does is the same for each division of the bytes,
// with an error at the end and without one.
func TestDivisions(t *testing.T) {
	bothKinds(t, func(t *testing.T, create func(t *testing.T) *end) {
		e := history(create(t))
		good := e.fed
		for i, last := range []string{"", u32(3), e.packet(disconnect(11, "")) + "more", e.packet("\x1e"+u32(0)) + e.packet(data("x"))} {
			s := good + last
			want := replay(t, e.c, s)
			if (want.err.err != nil) != (i > 0) || want.payloads != data("first")+"|"+data("second")+"|" || want.vars.Kexes != 2 {
				t.Fatalf("undivided: %+v", want)
			}
			var single []int
			for j := range len(s) {
				single = append(single, j)
			}
			divided := [][]int{single}
			for j := 1; j < len(s); j += 41 + i {
				divided = append(divided, []int{j}, []int{j, j, min(j+4, len(s))})
			}
			for _, ends := range divided {
				if got := replay(t, e.c, s, ends...); got != want {
					t.Fatalf("divided at %v: %+v, not %+v", ends, got, want)
				}
			}
		}
	})
}

// P15.3, P15.4: whatever is changed while a client receives the first exchange, it
// becomes open only with the host that it expects, and with the id that the host
// has. If it is gone, it has sent one disconnect, and sends nothing more.
func TestChangedExchange(t *testing.T) {
	source := rand.New(rand.NewSource(4))
	good := opened(client(t))
	opens := 0
	for bit := range 8 * len(good.fed) {
		if bit%29 != source.Intn(3) {
			continue
		}
		s := []byte(good.fed)
		s[bit/8] ^= 1 << (bit % 8)
		e := client(t)
		_, err := e.feed(string(s))
		v := e.s.Vars()
		if err == nil && v.Gone || err != nil && !v.Gone {
			t.Errorf("bit %d: %v, %+v", bit, err, v)
		}
		if v.Open {
			opens++
			if v.Key != e.c.Pin || v.ID != [32]byte([]byte(good.id)) {
				t.Errorf("bit %d: %+v", bit, v)
			}
		} else if v.Kexes != 0 || v.ID != [32]byte{} || v.Key != [32]byte{} {
			t.Errorf("bit %d: %+v", bit, v)
		}
		if err != nil {
			e.s.Close(11, "")
			e.feed(good.fed)
			e.checkPlain(fmt.Sprintf("bit %d", bit), faultOf(err).err)
		}
	}
	if opens == 0 { // bits of the padding may change
		t.Errorf("never open")
	}
}

// checkPlain checks that the session has sent one disconnect because of an error
// (none if that is a received disconnect), as its last packet. A packet behind
// newkeys is sealed with a key that only the session knows.
func (e *end) checkPlain(what string, err error) {
	e.Helper()
	e.r.Feed(e.s.Out())
	disconnects := 0
	for {
		payload, is, err := e.r.Next()
		if !is || err != nil {
			break
		}
		if disconnects > 0 {
			e.Errorf("%s: %q behind the disconnect", what, payload)
		}
		if payload[0] == 1 {
			disconnects++
		}
		if payload == newkeys {
			return
		}
	}
	if want := err != api.ErrGone; want != (disconnects == 1) {
		e.Errorf("%s: %d disconnects after %v", what, disconnects, err)
	}
}

// checkOnce checks that what was sent ends with the disconnect for an error, which
// is the only one; if the error is nil or a received disconnect, there is none.
func (e *end) checkOnce(what string, sent []string, err error) {
	e.Helper()
	disconnects := 0
	for _, payload := range sent {
		if payload[0] == 1 {
			disconnects++
		}
	}
	want := 0
	if f := faultOf(err); err != nil && f.err != api.ErrGone {
		want = 1
		if last := disconnect(reasonOf(f.err), ""); len(sent) == 0 || sent[len(sent)-1] != last {
			e.Errorf("%s: %v, but %.200q was sent", what, err, sent)
		}
	}
	if disconnects != want || e.s.Vars().Gone != (err != nil) {
		e.Errorf("%s: %v, but %d disconnects and %+v", what, err, disconnects, e.s.Vars())
	}
	if err != nil {
		e.checkGone(what)
	}
}

// P15.3: any bytes at each step lead to one disconnect, or to none.
func TestRandomBytes(t *testing.T) {
	source := rand.New(rand.NewSource(5))
	bothKinds(t, func(t *testing.T, create func(t *testing.T) *end) {
		for range 100 {
			p := places()[source.Intn(9)]
			e := p.reach(create(t))
			b := make([]byte, 8+source.Intn(200))
			source.Read(b)
			if source.Intn(2) == 0 { // a length that may be
				copy(b, u32(uint32(8*source.Intn(20)+4*source.Intn(2))))
			}
			l, err := e.feed(string(b))
			if e.kexes > 0 && len(l) != 0 {
				t.Errorf("%s: %q", p.name, l)
			}
			e.checkOnce(p.name, e.sent(), err)
		}
	})
}

// P15.3: random messages at each step, up to the first error.
func TestRandomMessages(t *testing.T) {
	source := rand.New(rand.NewSource(6))
	others := append(sendable()[:20], "\x02"+text("x"), "\xee", "\x04", disconnect(1, "x"))
	bothKinds(t, func(t *testing.T, create func(t *testing.T) *end) {
		for range 150 {
			p := places()[source.Intn(9)]
			e := p.reach(create(t))
			var sent []string
			var err error
			for steps := 0; err == nil && steps < 20; steps++ {
				e.s.Send(data("x"))
				payload := others[source.Intn(len(others))]
				if source.Intn(2) == 0 {
					payload = e.due([]byte{20, 21, 30, 31}[source.Intn(4)])
				}
				_, err = e.send(payload)
				sent = append(sent, e.sent()...)
				if err == nil && payload == newkeys {
					e.w.Seal(e.keys[e.other()])
					e.kexes++
				}
			}
			e.checkOnce(p.name, sent, err)
		}
	})
}

// due returns a message of the key exchange, and records what the session takes
// from it if it is due.
func (e *end) due(kind byte) string {
	e.Helper()
	payload := e.good(kind)
	switch kind {
	case 20:
		e.inits[e.other()] = payload
	case 30:
		e.points[0] = e.point()
	}
	return payload
}

// P15.3, P15.4: a client that expects another host.
func TestOtherHost(t *testing.T) {
	for _, pin := range [][32]byte{{}, hosts[0], publicKey(hosts[1]), {31: 0x80}} {
		c, _ := session.New(session.Config{Client: true, Software: "cli", Seed: "c", Pin: pin})
		s, _ := session.New(session.Config{Software: "srv", Seed: "s", Host: hosts[0]})
		if err := c.Send(data("secret")); err != nil {
			t.Errorf("Send: %v", err)
		}
		var errs [2]error
		for range 20 {
			for _, x := range []struct {
				from, to *session.Session
				err      *error
			}{{c, s, &errs[1]}, {s, c, &errs[0]}} {
				l, err := x.to.Feed(x.from.Out())
				if len(l) != 0 {
					t.Errorf("%x: %q", pin, l)
				}
				if *x.err == nil {
					*x.err = err
				}
			}
		}
		if faultOf(errs[0]) != (fault{"session", api.ErrHost}) || faultOf(errs[1]) != (fault{"session", api.ErrGone}) {
			t.Errorf("%x: %v and %v", pin, errs[0], errs[1])
		}
		for _, v := range []session.Vars{c.Vars(), s.Vars()} {
			if v.Open || !v.Gone || v.Kexes != 0 || v.ID != [32]byte{} || v.Key != [32]byte{} {
				t.Errorf("%x: %+v", pin, v)
			}
		}
	}
}
