package session_test

import (
	"fmt"
	"slices"
	"strings"
	"testing"

	"speakeasy/api"
)

// place is a step of a session's life, and which messages it takes there.
type place struct {
	name   string
	server []byte // kinds of the key exchange that a server takes
	client []byte // and those that a client takes
	above  bool   // payloads for the layer above
	steps  func(e *end)
}

// reach brings a session to that place.
func (p place) reach(e *end) *end {
	e.Helper()
	p.steps(e)
	return e
}

// places returns all steps at which the version line has been received.
func places() []place {
	first := func(e *end) { e.begin() }
	open := func(e *end) { opened(e) }
	return []place{
		{"a new session", []byte{20}, []byte{20}, false, first},
		{"both kexinits", []byte{30}, []byte{31}, false, func(e *end) { first(e); e.agree(true) }},
		{"sent newkeys", []byte{21}, []byte{21}, false, func(e *end) { first(e); e.agree(true); e.answer() }},
		{"open", []byte{20}, []byte{20}, true, open},
		{"own kexinit again", []byte{20}, []byte{20}, true, func(e *end) { open(e); e.rekey() }},
		{"both kexinits again", []byte{30}, []byte{31}, false, func(e *end) { open(e); e.rekey(); e.agree(true) }},
		{"both kexinits, the other one first", []byte{30}, []byte{31}, false, func(e *end) { open(e); e.agree(false) }},
		{"sent newkeys again", []byte{21}, []byte{21}, false, func(e *end) { open(e); e.rekey(); e.agree(true); e.answer() }},
		{"open again", []byte{20}, []byte{20}, true, func(e *end) { open(e); e.exchange(false) }},
	}
}

// good returns a message of the key exchange that the session takes if it takes
// its kind.
func (e *end) good(kind byte) string {
	e.Helper()
	switch kind {
	case 20:
		return ourInit(theirs, e.kexes)
	case 21:
		return newkeys
	case 30:
		return ecdhInit(e.point())
	}
	if !e.c.Client || e.points[0] == "" {
		return ecdhReply("", "", "")
	}
	e.points[1] = e.point()
	return e.reply()
}

// P15.1, P15.3: each message of the key exchange at each step.
func TestOrder(t *testing.T) {
	bothKinds(t, func(t *testing.T, create func(t *testing.T) *end) {
		for _, p := range places() {
			for _, kind := range []byte{20, 21, 30, 31} {
				e := p.reach(create(t))
				taken := p.server
				if e.c.Client {
					taken = p.client
				}
				what := fmt.Sprintf("%s, kind %d", p.name, kind)
				l, err := e.send(e.good(kind))
				if len(l) != 0 {
					t.Errorf("%s: %q", what, l)
				}
				if !slices.Contains(taken, kind) {
					e.checkFailed(what, err, api.ErrState, "session")
				} else if err != nil || e.s.Vars().Gone {
					t.Errorf("%s: %v", what, err)
				}
			}
		}
	})
}

// P15.1: payloads for the layer above at each step.
func TestAbove(t *testing.T) {
	bothKinds(t, func(t *testing.T, create func(t *testing.T) *end) {
		for _, p := range places() {
			for _, payload := range sendable() {
				e := p.reach(create(t))
				if p.above {
					e.above(payload)
					e.wants()
					break // TestPayloads has the others
				}
				l, err := e.send(payload)
				if len(l) != 0 {
					t.Errorf("%s: %.60q", p.name, l)
				}
				e.checkFailed(fmt.Sprintf("%s, %.60q", p.name, payload), err, api.ErrState, "session")
			}
		}
	})
}

// P15.1: messages that have no effect, at each step.
func TestNoEffect(t *testing.T) {
	bothKinds(t, func(t *testing.T, create func(t *testing.T) *end) {
		for _, p := range places() {
			e := p.reach(create(t))
			before := e.s.Vars()
			for _, payload := range []string{
				"\x02" + text(""), "\x02" + text(strings.Repeat("x", 32763)), "\x03" + u32(0), "\x03" + u32(1<<32-1),
				"\x04\x01" + text("message") + text("en"), "\x04\x00" + text("") + text(""),
			} {
				e.quietly(payload)
				e.wants()
				if e.s.Vars() != before {
					t.Errorf("%s, %.60q: %+v, after %+v", p.name, payload, e.s.Vars(), before)
				}
			}
		}
	})
}

// P15.1: kinds that there are not, at each step, are told with the packet's number.
func TestUnknown(t *testing.T) {
	var unknown []byte
	for kind := range 256 {
		if slices.Contains([]int{1, 2, 3, 4, 5, 6, 20, 21, 30, 31, 50, 51, 52, 53, 60, 80, 81, 82}, kind) || kind >= 90 && kind <= 100 {
			continue
		}
		unknown = append(unknown, byte(kind))
	}
	bothKinds(t, func(t *testing.T, create func(t *testing.T) *end) {
		for _, p := range places() {
			e := p.reach(create(t))
			before := e.s.Vars()
			for i, kind := range unknown {
				number := uint32(e.w.Count())
				e.quietly(string([]byte{kind}) + strings.Repeat("x", i%3*100))
				e.wants("\x03" + u32(number))
			}
			if e.s.Vars() != before {
				t.Errorf("%s: %+v, after %+v", p.name, e.s.Vars(), before)
			}
		}
		e := create(t)
		e.begin()
		for i := range uint32(300) {
			e.quietly("\x00")
			e.wants("\x03" + u32(i))
		}
		e.exchange(true) // three packets, which count as well
		e.quietly("\x00")
		e.wants("\x03" + u32(303))
	})
}

// P15.1, P15.3: a disconnect, at each step: nothing is sent any more, nor received.
func TestDisconnected(t *testing.T) {
	bothKinds(t, func(t *testing.T, create func(t *testing.T) *end) {
		for _, p := range places() {
			for _, payload := range []string{disconnect(11, "bye"), disconnect(0, ""), "\x01" + u32(2) + text("x") + text("en")} {
				e := p.reach(create(t))
				var want []string
				if p.above {
					want = append(want, data("before"))
				}
				s := ""
				for _, w := range want {
					s += e.packet(w)
				}
				number := uint32(e.w.Count())
				s += e.packet("\xee") + e.packet(payload) + e.packet(data("after")) + e.packet("\xee")
				l, err := e.feed(s)
				if !slices.Equal(l, want) {
					t.Errorf("%s: %q, not %q", p.name, l, want)
				}
				e.checkFailed(p.name, err, api.ErrGone, "session", "\x03"+u32(number))
			}
		}
	})
}

// P15.1, P15.3: payloads that are no messages, at each step.
func TestParseErrors(t *testing.T) {
	tests := []struct {
		payload string
		want    error
	}{
		{"\x01", api.ErrEnd}, {disconnect(11, "x")[:9], api.ErrEnd}, {disconnect(11, "x") + "y", api.ErrForm},
		{"\x02" + text("a") + "b", api.ErrForm}, {"\x03", api.ErrEnd}, {"\x04\x00" + u32(40000), api.ErrBig},
		{"\x14", api.ErrEnd}, {ourInit(theirs, 0) + "x", api.ErrForm}, {kexinit("0123456789abcdef", []string{",", "", "", "", "", "", "", "", "", ""}, 0), api.ErrForm},
		{"\x15x", api.ErrForm}, {"\x1e", api.ErrEnd}, {ecdhInit("x") + "y", api.ErrForm}, {"\x1e" + u32(32769), api.ErrBig}, {"\x1f" + text(""), api.ErrEnd},
		{"\x5e", api.ErrEnd}, {data("x") + "y", api.ErrForm}, {"\x5e" + u32(0) + u32(32769), api.ErrBig},
	}
	bothKinds(t, func(t *testing.T, create func(t *testing.T) *end) {
		for _, p := range places() {
			for _, test := range tests {
				e := p.reach(create(t))
				l, err := e.send(test.payload)
				if len(l) != 0 {
					t.Errorf("%s: %q", p.name, l)
				}
				e.checkFailed(fmt.Sprintf("%s, %.60q", p.name, test.payload), err, test.want, "session")
			}
		}
	})
}

// P15.1, P15.3: packets that are none, at each step.
func TestPacketErrors(t *testing.T) {
	bothKinds(t, func(t *testing.T, create func(t *testing.T) *end) {
		for _, p := range places() {
			opens := func(e *end) bool { return e.kexes > 0 }
			tests := []struct {
				name   string
				packet func(e *end) string
				want   func(e *end) error
			}{
				{"too long", func(e *end) string { return u32(33032) }, func(e *end) error { return api.ErrBig }},
				{"too short", func(e *end) string { return u32(4) }, func(e *end) error { return api.ErrForm }},
				{"not aligned", func(e *end) string { return u32(25) }, func(e *end) error { return api.ErrForm }},
				{"changed", func(e *end) string {
					s := []byte(e.packet("\x02" + text("x")))
					s[4] ^= 0xff // plain: the length of the padding
					return string(s)
				}, func(e *end) error {
					if opens(e) {
						return api.ErrMac
					}
					return api.ErrForm
				}},
			}
			for _, test := range tests {
				e := p.reach(create(t))
				s := ""
				var want []string
				if p.above {
					want = append(want, data("before"))
					s = e.packet(want[0])
				}
				l, err := e.feed(s + test.packet(e))
				if !slices.Equal(l, want) {
					t.Errorf("%s, %s: %q", p.name, test.name, l)
				}
				e.checkFailed(p.name+", "+test.name, err, test.want(e), "session/packet")
			}
		}
	})
}

// P15.1, P15.3: sealed packets that are repeated, omitted, reordered or of another key.
func TestSealedErrors(t *testing.T) {
	bothKinds(t, func(t *testing.T, create func(t *testing.T) *end) {
		tests := map[string]func(e *end, p []string) []string{
			"repeated":  func(e *end, p []string) []string { return []string{p[0], p[0]} },
			"omitted":   func(e *end, p []string) []string { return []string{p[0], p[2]} },
			"reordered": func(e *end, p []string) []string { return []string{p[0], p[2], p[1]} },
			"of the other direction": func(e *end, p []string) []string {
				e.w.Seal(e.keys[e.own()])
				return []string{p[0], e.packet(data("1"))}
			},
			"a plain one": func(e *end, p []string) []string {
				return []string{p[0], u32(24) + "\x0a" + data("1") + strings.Repeat("\x00", 40)}
			},
		}
		for name, change := range tests {
			for exchanges := range 3 {
				e := opened(create(t))
				for range exchanges {
					e.exchange(false)
				}
				p := []string{e.packet(data("0")), e.packet(data("1")), e.packet(data("2"))}
				l, err := e.feed(strings.Join(change(e, p), ""))
				if !slices.Equal(l, []string{data("0")}) {
					t.Errorf("%s: %q", name, l)
				}
				e.checkFailed(name, err, api.ErrMac, "session/packet")
			}
		}
	})
}

// P15.1: after an exchange, packets with the old key are not opened.
func TestOldKey(t *testing.T) {
	bothKinds(t, func(t *testing.T, create func(t *testing.T) *end) {
		e := opened(create(t))
		e.agree(false)
		old := e.keys[e.other()]
		e.answer()
		e.finish()
		e.w.Seal(old)
		_, err := e.send(data("x"))
		e.checkFailed("the old key", err, api.ErrMac, "session/packet")
	})
}

// P15.1, P15.3: what is received instead of a version line, or before it.
func TestLineErrors(t *testing.T) {
	tests := []struct {
		line           string
		server, client error // what it is for each of them
	}{
		{"SSH-2.1-x\r\n", api.ErrVersion, api.ErrVersion},
		{"SSH-2.0-\r\n", api.ErrVersion, api.ErrVersion},
		{"SSH-2.0-a-b\r\n", api.ErrVersion, api.ErrVersion},
		{"SSH-1.5-x\n", api.ErrVersion, api.ErrVersion},
		{"SSH-2.0-x\x00\r\n", api.ErrForm, api.ErrForm},
		{"\x00\n", api.ErrForm, api.ErrForm},
		{strings.Repeat("x", 255), api.ErrBig, api.ErrBig},
		{"SSH-2.0-x " + strings.Repeat("x", 244) + "\n", nil, nil},
		{"SSH-2.0-x " + strings.Repeat("x", 245), api.ErrBig, api.ErrBig},
		{"SSH-1.99-x\n", nil, nil},
		{"hello\r\nSSH-2.0-x\r\n", api.ErrVersion, nil},
		{strings.Repeat("\n", 16) + "SSH-2.0-x\r\n", api.ErrVersion, nil},
		{strings.Repeat("\n", 17), api.ErrVersion, api.ErrVersion},
	}
	bothKinds(t, func(t *testing.T, create func(t *testing.T) *end) {
		for _, test := range tests {
			e := create(t)
			want := test.server
			if e.c.Client {
				want = test.client
			}
			l, err := e.feed(test.line)
			if len(l) != 0 {
				t.Errorf("%q: %q", test.line, l)
			}
			if want != nil {
				e.checkFailed(test.line, err, want, "session")
				continue
			}
			if err != nil {
				t.Errorf("%q: %v", test.line, err)
			}
			all := strings.Split(strings.TrimRight(test.line, "\r\n"), "\n")
			e.lines[e.other()] = all[len(all)-1]
			e.exchange(true)
			e.checkVars(true, 0)
		}
	})
}

// P15.1, P15.3: points that are none, in each exchange.
func TestPointErrors(t *testing.T) {
	ones := strings.Repeat("\xff", 32)
	tests := []struct {
		point string
		want  error
		where string
	}{
		{"", api.ErrForm, "session"}, {ones[:31], api.ErrForm, "session"}, {ones + "\xff", api.ErrForm, "session"}, {strings.Repeat("\x00", 64), api.ErrForm, "session"},
		{strings.Repeat("\x00", 32), api.ErrKey, "session/kex"},
		{"\x01" + strings.Repeat("\x00", 31), api.ErrKey, "session/kex"},
		{"\xed" + ones[:30] + "\x7f", api.ErrKey, "session/kex"}, // 2^255 - 19, which is 0
		{"\xed" + ones[:31], api.ErrKey, "session/kex"},          // with the highest bit, which does not count
	}
	for _, test := range tests {
		for again := range 2 {
			e := server(t)
			c := client(t)
			for _, x := range []*end{e, c} {
				x.begin()
				for range again {
					x.exchange(true)
				}
				x.agree(again == 0)
			}
			_, err := e.send(ecdhInit(test.point))
			e.checkFailed(fmt.Sprintf("ecdh-init of %x", test.point), err, test.want, test.where)
			good := c.good(31)
			_, err = c.send(ecdhReply(c.hostKey, test.point, good[len(good)-83:]))
			c.checkFailed(fmt.Sprintf("ecdh-reply of %x", test.point), err, test.want, test.where)
		}
	}
}

// P15.1, P15.3, P15.4: of several errors in an ecdh-reply, the first one counts.
func TestReplyErrors(t *testing.T) {
	pin, other := publicKey(hosts[0]), publicKey(hosts[1])
	keys := []struct {
		blob  string
		want  error
		where string
	}{
		{blob(string(pin[:])), nil, ""},
		{"", api.ErrEnd, "session/key"}, {blob(string(pin[:])) + "x", api.ErrForm, "session/key"},
		{blob(string(pin[:31])), api.ErrKey, "session/key"}, {text("ssh-rsa") + text(string(pin[:])), api.ErrKey, "session/key"},
		{blob(string(other[:])), api.ErrHost, "session"},
		{blob(strings.Repeat("\xff", 32)), api.ErrHost, "session"}, // no point at all
	}
	sigs := []struct {
		blob  func(hash string) string
		want  error
		where string
	}{
		{func(hash string) string { return blob(sign(hosts[0], hash)) }, nil, ""},
		{func(hash string) string { return "\x00" }, api.ErrEnd, "session/signature"},
		{func(hash string) string { return blob(sign(hosts[0], hash)) + "x" }, api.ErrForm, "session/signature"},
		{func(hash string) string { return blob(sign(hosts[0], hash)[1:]) }, api.ErrSign, "session/signature"},
		{func(hash string) string { return text("ssh-rsa") + text(sign(hosts[0], hash)) }, api.ErrSign, "session/signature"},
		{func(hash string) string { return blob(sign(hosts[1], hash)) }, api.ErrSign, "session"},
		{func(hash string) string { return blob(sign(hosts[0], hash+"x")) }, api.ErrSign, "session"},
		{func(hash string) string { return blob(sign(hosts[0], strings.Repeat("\x00", 32))) }, api.ErrSign, "session"},
		{func(hash string) string { return blob(strings.Repeat("\x00", 64)) }, api.ErrSign, "session"},
	}
	points := []struct {
		point func(p string) string
		want  error
		where string
	}{
		{func(p string) string { return p }, nil, ""},
		{func(p string) string { return p[:31] }, api.ErrForm, "session"},
		{func(p string) string { return strings.Repeat("\x00", 32) }, api.ErrKey, "session/kex"},
	}
	for i, key := range keys {
		for j, sig := range sigs {
			for k, point := range points {
				c := client(t)
				c.begin()
				c.agree(true)
				c.good(31) // calculates the hash, for the right point
				c.hostKey = key.blob
				c.share()
				want, where := error(nil), ""
				take := func(what error, place string) {
					if want == nil && what != nil {
						want, where = what, place
					}
				}
				if key.want != api.ErrHost {
					take(key.want, key.where)
				}
				if sig.where != "session" {
					take(sig.want, sig.where)
				}
				take(point.want, point.where)
				take(key.want, key.where)
				take(sig.want, sig.where)
				_, err := c.send(ecdhReply(key.blob, point.point(c.points[1]), sig.blob(c.hash)))
				if want == nil {
					if err != nil {
						t.Errorf("a good reply: %v", err)
					}
					c.wants(newkeys)
					continue
				}
				c.checkFailed(fmt.Sprintf("key %d, signature %d, point %d", i, j, k), err, want, where)
			}
		}
	}
}

// P15.4: the signature of an exchange is not one of another exchange.
func TestReplayedReply(t *testing.T) {
	c := client(t)
	c.begin()
	c.agree(true)
	old := c.good(31)
	c.quietly(old)
	c.wants(newkeys)
	c.finish()
	c.agree(false)
	_, err := c.send(old)
	c.checkFailed("the reply of the exchange before", err, api.ErrSign, "session")
	if v := c.s.Vars(); v.Open || v.Kexes != 1 {
		t.Errorf("%+v", v)
	}
}

// P15.1, P15.4: later exchanges must have the host key that is expected, too.
func TestLaterHost(t *testing.T) {
	c := opened(client(t))
	c.rekey()
	c.agree(true)
	c.points[1] = c.point()
	key := publicKey(hosts[1])
	c.hostKey = blob(string(key[:]))
	c.share()
	_, err := c.send(ecdhReply(c.hostKey, c.points[1], blob(sign(hosts[1], c.hash))))
	c.checkFailed("another host later", err, api.ErrHost, "session")
}

// P15.1, P15.3: nothing in common, in each list and in each exchange.
func TestAlgoErrors(t *testing.T) {
	where := []string{"kex", "host", "cipher 0", "cipher 1", "mac 0", "mac 1", "zip 0", "zip 1"}
	bothKinds(t, func(t *testing.T, create func(t *testing.T) *end) {
		for i, name := range where {
			for _, list := range []string{"", "other", "curve25519-sha512,none2"} {
				for _, p := range places() {
					if !slices.Contains(p.server, 20) {
						continue
					}
					e := p.reach(create(t))
					lists := slices.Clone(ours)
					lists[i] = list
					for j := i + 1; j < len(lists); j++ {
						lists[j] = "x"
					}
					_, err := e.send(kexinit("0123456789abcdef", lists, 1))
					if name == "mac 0" || name == "mac 1" { // not compared, because of the cipher
						e.checkFailed(p.name+", "+name, err, api.ErrAlgo, "session/zip 0", began(e, p)...)
						continue
					}
					e.checkFailed(p.name+", "+name, err, api.ErrAlgo, "session/"+name, began(e, p)...)
				}
			}
		}
	})
}

// began returns the kexinit that the session sends because it has got one, at a
// place where it has not sent it before.
func began(e *end, p place) []string {
	if strings.HasPrefix(p.name, "open") {
		return []string{ourInit(e.c.Seed, e.kexes)}
	}
	return nil
}

// P15.1: algorithms that the other end prefers, but has in common, are agreed on.
func TestOtherLists(t *testing.T) {
	bothKinds(t, func(t *testing.T, create func(t *testing.T) *end) {
		for _, p := range places() {
			if !slices.Contains(p.server, 20) {
				continue
			}
			e := p.reach(create(t))
			lists := []string{"a," + ours[0], ours[1] + ",b", "c," + ours[2], ours[2] + ",d", "", "x", "zlib,none", "none,zlib", "de", "fr"}
			e.offer(p, lists, 0)
			e.answer()
			e.finish()
			e.checkVars(true, 0)
		}
	})
}

// offer sends a kexinit with these lists, which has something in common with ours.
func (e *end) offer(p place, lists []string, guess byte) {
	e.Helper()
	payload := kexinit("0123456789abcdef", lists, guess)
	e.quietly(payload)
	e.inits[e.other()] = payload
	want := began(e, p)
	if e.c.Client {
		want = append(want, ecdhInit(string(private(e.c.Seed, e.kexes).PublicKey().Bytes())))
	}
	e.wants(want...)
}

// P15.1: behind a wrong guess one packet is ignored, whatever it is, and no other one.
func TestSkip(t *testing.T) {
	wrong := [][]string{slices.Clone(ours), slices.Clone(ours)}
	wrong[0][0] = "guessed," + ours[0]
	wrong[1][1] = "guessed," + ours[1]
	bothKinds(t, func(t *testing.T, create func(t *testing.T) *end) {
		ignored := []string{ecdhInit("guessed"), ecdhReply("a", "b", "c"), newkeys, ourInit(theirs, 0), "\x14", "\xee", "\x00", disconnect(11, ""), "\x01", "\x02" + text(""), data("x"), data("x")[:3], bytesOf(32768)}
		for _, p := range places() {
			if !slices.Contains(p.server, 20) {
				continue
			}
			for i, payload := range ignored {
				e := p.reach(create(t))
				e.offer(p, wrong[i%2], 1)
				before := e.s.Vars()
				e.quietly(payload)
				e.wants()
				if e.s.Vars() != before {
					t.Errorf("%s, %.60q: %+v, after %+v", p.name, payload, e.s.Vars(), before)
				}
				number := uint32(e.w.Count())
				e.quietly("\xee") // is not ignored, and has the number behind that of the other one
				e.wants("\x03" + u32(number))
				e.answer()
				e.finish()
				e.checkVars(true, 0)
				e.exchange(false)
				e.checkVars(true, 0)
			}
			e := p.reach(create(t))
			e.offer(p, wrong[0], 1)
			e.quietly(e.good(20))
			_, err := e.send(e.good(20))
			e.checkFailed(p.name+", two packets", err, api.ErrState, "session")
		}
	})
}

// P15.1: packets that are none are errors, even behind a wrong guess.
func TestSkipErrors(t *testing.T) {
	wrong := slices.Clone(ours)
	wrong[0] = "guessed," + ours[0]
	bothKinds(t, func(t *testing.T, create func(t *testing.T) *end) {
		for _, p := range places() {
			if slices.Contains(p.server, 20) {
				e := p.reach(create(t))
				e.offer(p, wrong, 1)
				_, err := e.feed(u32(1 << 20))
				e.checkFailed(p.name, err, api.ErrBig, "session/packet")
			}
		}
	})
}

// P15.1: nothing is ignored behind a guess that is right, or that was none.
func TestNoSkip(t *testing.T) {
	other := slices.Clone(ours)
	other[0] += ",more"
	other[2] = "more," + ours[2]
	wrong := slices.Clone(ours)
	wrong[0] = "guessed," + ours[0]
	tests := []struct {
		lists []string
		guess byte
	}{{ours, 0}, {ours, 1}, {other, 0}, {other, 1}, {wrong, 0}}
	bothKinds(t, func(t *testing.T, create func(t *testing.T) *end) {
		for _, p := range places() {
			if !slices.Contains(p.server, 20) {
				continue
			}
			for _, test := range tests {
				e := p.reach(create(t))
				e.offer(p, test.lists, test.guess)
				e.answer()
				e.finish()
				e.checkVars(true, 0)
				e = p.reach(create(t))
				e.offer(p, test.lists, test.guess)
				_, err := e.send(disconnect(11, ""))
				e.checkFailed(p.name, err, api.ErrGone, "session")
			}
		}
	})
}

// P15.1: a guess is any byte but 0; what is hashed is the encoding of the message,
// in which it is 1.
func TestGuessByte(t *testing.T) {
	bothKinds(t, func(t *testing.T, create func(t *testing.T) *end) {
		for _, guess := range []byte{1, 2, 0x80, 0xff} {
			e := create(t)
			e.begin()
			lists := slices.Clone(ours)
			lists[0] += ",more"
			lists[1] = "guessed," + lists[1]
			e.offer(places()[0], lists, guess)
			e.inits[e.other()] = kexinit("0123456789abcdef", lists, 1)
			e.quietly(disconnect(1, "is ignored"))
			e.answer()
			e.finish()
			e.checkVars(true, 0)
		}
	})
}
