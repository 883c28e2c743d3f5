package session_test

import (
	"bytes"
	"crypto/ecdh"
	"crypto/ed25519"
	"crypto/hmac"
	"crypto/sha256"
	"encoding/binary"
	"math/big"
	"strings"
	"testing"

	"speakeasy/api"
	"speakeasy/packet"
	"speakeasy/session"
)

// Seeds of host keys.
var hosts = [][32]byte{{1, 2, 3}, {9}}

// publicKey returns the public key of a seed, by the standard library.
func publicKey(seed [32]byte) [32]byte {
	return [32]byte(ed25519.NewKeyFromSeed(seed[:]).Public().(ed25519.PublicKey))
}

func u32(n uint32) string { return string(binary.BigEndian.AppendUint32(nil, n)) }

func text(s string) string { return u32(uint32(len(s))) + s }

func blob(s string) string { return text("ssh-ed25519") + text(s) }

// mpint returns the Text of a number.
func mpint(secret []byte) string {
	n := new(big.Int).SetBytes(secret)
	if n.Sign() == 0 {
		return text("")
	}
	return text(string(n.FillBytes(make([]byte, n.BitLen()/8+1))))
}

// spread returns at most 32 bytes that are derived from a seed and a label.
func spread(seed, label string, n int) string {
	h := hmac.New(sha256.New, []byte(seed))
	h.Write([]byte(label + "\x01"))
	return string(h.Sum(nil)[:n])
}

func private(seed string, number int) *ecdh.PrivateKey {
	k, err := ecdh.X25519().NewPrivateKey([]byte(spread(seed, "point"+string([]byte{byte(number)}), 32)))
	if err != nil {
		panic(err)
	}
	return k
}

var ours = []string{"curve25519-sha256", "ssh-ed25519", "chacha20-poly1305", "chacha20-poly1305", "none", "none", "none", "none", "", ""}

// kexinit returns a payload with these lists.
func kexinit(cookie string, lists []string, guess byte) string {
	s := "\x14" + cookie
	for _, list := range lists {
		s += text(list)
	}
	return s + string([]byte{guess}) + u32(0)
}

// ourInit returns what the session with that seed sends in the exchange of that number.
func ourInit(seed string, number int) string {
	return kexinit(spread(seed, "cookie"+string([]byte{byte(number)}), 16), ours, 0)
}

func ecdhInit(point string) string { return "\x1e" + text(point) }

func ecdhReply(key, point, sig string) string { return "\x1f" + text(key) + text(point) + text(sig) }

func data(s string) string { return "\x5e" + u32(0) + text(s) }

func disconnect(reason uint32, description string) string {
	return "\x01" + u32(reason) + text(description) + text("")
}

const (
	newkeys = "\x15"
	theirs  = "their seed"
	line    = "SSH-2.0-other some comment" // of the other end
)

// end is the other end of a session, with the standard library's cryptography. It
// sends what a test wants, and reads all that the session sends.
type end struct {
	*testing.T
	s       *session.Session
	c       session.Config
	w       packet.Writer
	r       packet.Reader
	fed     string // all bytes that the session was given
	lines   [2]string
	inits   [2]string
	points  [2]string
	kexes   int
	hash    string
	id      string
	keys    [2][32]byte
	hostKey string // of the server
}

// own returns the index of the session, and other that of this end.
func (e *end) own() int {
	if e.c.Client {
		return 0
	}
	return 1
}

func (e *end) other() int { return 1 - e.own() }

// connect creates a session. It checks its line, which is not followed by anything
// but the first kexinit.
func connect(t *testing.T, c session.Config) *end {
	t.Helper()
	s, err := session.New(c)
	if s == nil || err != nil {
		t.Fatalf("New: %v, %v", s, err)
	}
	e := &end{T: t, s: s, c: c}
	out := s.Out()
	first, rest, _ := strings.Cut(out, "\r\n")
	if first != "SSH-2.0-"+c.Software {
		t.Fatalf("the output begins with %q", out)
	}
	e.lines[e.own()], e.lines[e.other()] = first, line
	e.r.Feed(rest)
	if got := e.payloads(); len(got) != 1 || got[0] != ourInit(c.Seed, 0) {
		t.Fatalf("after the line: %q", got)
	}
	return e
}

// server and client return a session of that kind.
func server(t *testing.T) *end {
	t.Helper()
	return connect(t, session.Config{Software: "srv", Seed: "server's", Host: hosts[0], Pin: [32]byte{7}})
}

func client(t *testing.T) *end {
	t.Helper()
	return connect(t, session.Config{Client: true, Software: "cli", Seed: "client's", Host: hosts[1], Pin: publicKey(hosts[0])})
}

// feed gives bytes to the session.
func (e *end) feed(s string) ([]string, error) {
	e.fed += s
	return e.s.Feed(s)
}

// packet returns the next packet to the session.
func (e *end) packet(payload string) string {
	e.Helper()
	p, err := e.w.Pack(payload)
	if err != nil {
		e.Fatal(err)
	}
	return p
}

// send sends a payload to the session.
func (e *end) send(payload string) ([]string, error) { return e.feed(e.packet(payload)) }

// quietly sends a payload that leads to no error and is not for the layer above.
func (e *end) quietly(payload string) {
	e.Helper()
	if l, err := e.send(payload); len(l) != 0 || err != nil {
		e.Fatalf("%.60q: %q, %v", payload, l, err)
	}
}

// above sends a payload that is for the layer above.
func (e *end) above(payload string) {
	e.Helper()
	if l, err := e.send(payload); len(l) != 1 || l[0] != payload || err != nil {
		e.Fatalf("%.60q: %q, %v", payload, l, err)
	}
}

// sent returns the payloads that the session has sent since the last call.
func (e *end) sent() []string {
	e.Helper()
	e.r.Feed(e.s.Out())
	return e.payloads()
}

func (e *end) payloads() []string {
	e.Helper()
	var l []string
	for {
		payload, is, err := e.r.Next()
		if err != nil {
			e.Fatalf("what was sent: %v behind %q", err, l)
		}
		if !is {
			if e.r.Waits() != 0 {
				e.Fatalf("what was sent ends within a packet, behind %q", l)
			}
			return l
		}
		l = append(l, payload)
		e.note(payload)
	}
}

// note takes from a payload of the session what this end needs.
func (e *end) note(payload string) {
	e.Helper()
	switch payload[0] {
	case 20:
		e.inits[e.own()] = payload
	case 21:
		e.r.Open(e.keys[e.own()])
	case 30:
		e.points[0] = payload[5:]
	case 31:
		e.hostKey = payload[5 : 5+51]
		e.points[1] = payload[5+51+4 : 5+51+4+32]
		e.share()
	}
}

// wants checks what the session has sent since the last call.
func (e *end) wants(payloads ...string) {
	e.Helper()
	got := e.sent()
	if len(got) != len(payloads) {
		e.Fatalf("%d payloads were sent, not %d: %.200q", len(got), len(payloads), got)
	}
	for i := range got {
		if got[i] != payloads[i] {
			e.Fatalf("payload %d is %.200q, not %.200q", i, got[i], payloads[i])
		}
	}
}

// share calculates the hash and the keys of the exchange.
func (e *end) share() {
	e.Helper()
	point, err := ecdh.X25519().NewPublicKey([]byte(e.points[e.own()]))
	if err != nil {
		e.Fatal(err)
	}
	secret, err := private(theirs, e.kexes).ECDH(point)
	if err != nil {
		e.Fatal(err)
	}
	s := ""
	for _, part := range []string{e.lines[0], e.lines[1], e.inits[0], e.inits[1], e.hostKey, e.points[0], e.points[1]} {
		s += text(part)
	}
	e.hash = hashed(s + mpint(secret))
	if e.kexes == 0 {
		e.id = e.hash
	}
	for i := range e.keys {
		e.keys[i] = [32]byte([]byte(hashed(mpint(secret) + e.hash + "CD"[i:i+1] + e.id)))
	}
}

func hashed(s string) string {
	sum := sha256.Sum256([]byte(s))
	return string(sum[:])
}

// begin sends the version line.
func (e *end) begin() {
	e.Helper()
	if l, err := e.feed(line + "\r\n"); len(l) != 0 || err != nil {
		e.Fatalf("the line: %q, %v", l, err)
	}
	e.wants()
}

// point returns this end's point in the exchange in progress.
func (e *end) point() string { return string(private(theirs, e.kexes).PublicKey().Bytes()) }

// agree sends a kexinit; began tells whether the session has sent its own.
func (e *end) agree(began bool) {
	e.Helper()
	payload := ourInit(theirs, e.kexes)
	e.quietly(payload)
	e.inits[e.other()] = payload
	var want []string
	if !began {
		want = append(want, ourInit(e.c.Seed, e.kexes))
	}
	if e.c.Client {
		want = append(want, ecdhInit(string(private(e.c.Seed, e.kexes).PublicKey().Bytes())))
	}
	e.wants(want...)
}

// answer sends an ecdh-init or an ecdh-reply, whichever is due, and checks what
// the session does then, up to its newkeys.
func (e *end) answer() {
	e.Helper()
	e.points[e.other()] = e.point()
	if e.c.Client {
		e.quietly(e.reply())
		e.wants(newkeys)
		return
	}
	e.quietly(ecdhInit(e.point()))
	got := e.sent()
	if len(got) != 2 || got[0][0] != 31 || got[1] != newkeys {
		e.Fatalf("after ecdh-init: %q", got)
	}
	e.checkReply(got[0])
}

// reply returns the ecdh-reply of this end, which is the server.
func (e *end) reply() string {
	e.Helper()
	key := publicKey(hosts[0])
	e.hostKey = blob(string(key[:]))
	e.share()
	return ecdhReply(e.hostKey, e.points[1], blob(sign(hosts[0], e.hash)))
}

func sign(seed [32]byte, s string) string {
	return string(ed25519.Sign(ed25519.NewKeyFromSeed(seed[:]), []byte(s)))
}

// checkReply checks the ecdh-reply of the session, which is the server.
func (e *end) checkReply(payload string) {
	e.Helper()
	key := publicKey(e.c.Host)
	point := private(e.c.Seed, e.kexes).PublicKey().Bytes()
	want := ecdhReply(blob(string(key[:])), string(point), blob(""))
	if len(payload) != len(want)+64 || e.hostKey != blob(string(key[:])) || e.points[1] != string(point) {
		e.Fatalf("ecdh-reply: %q", payload)
	}
	sig := []byte(payload[len(payload)-64:])
	if !ed25519.Verify(key[:], []byte(e.hash), sig) || !strings.HasSuffix(payload, text(blob(string(sig)))) {
		e.Fatalf("the signature of ecdh-reply is %x", sig)
	}
}

// finish sends newkeys, and checks what the session sends then.
func (e *end) finish(payloads ...string) {
	e.Helper()
	e.quietly(newkeys)
	e.w.Seal(e.keys[e.other()])
	e.kexes++
	e.wants(payloads...)
}

// exchange goes through a whole exchange; began tells whether the session has
// begun it.
func (e *end) exchange(began bool, payloads ...string) {
	e.Helper()
	e.agree(began)
	e.answer()
	e.finish(payloads...)
}

// rekey makes the session begin an exchange.
func (e *end) rekey() {
	e.Helper()
	if err := e.s.Rekey(); err != nil {
		e.Fatalf("Rekey: %v", err)
	}
	e.wants(ourInit(e.c.Seed, e.kexes))
}

// opened returns the end after the first exchange.
func opened(e *end) *end {
	e.Helper()
	e.begin()
	e.exchange(true)
	e.checkVars(true, 0)
	return e
}

// checkVars checks the state of a session that is not gone.
func (e *end) checkVars(open bool, waits int) {
	e.Helper()
	want := session.Vars{Open: open, Kexes: e.kexes, Waits: waits}
	if e.kexes > 0 {
		want.ID, want.Key = [32]byte([]byte(e.id)), publicKey(hosts[0])
	}
	if got := e.s.Vars(); got != want {
		e.Fatalf("%+v, not %+v", got, want)
	}
}

// fault is an error as the document names it: where it was wrapped, from the
// outermost place on, and the error itself.
type fault struct {
	where string
	err   error
}

func faultOf(err error) fault {
	var l []string
	for {
		f, ok := err.(*api.Fault)
		if !ok {
			return fault{strings.Join(l, "/"), err}
		}
		l = append(l, f.Where)
		err = f.Err
	}
}

// reasonOf returns the reason of the disconnect that the document names for an error.
func reasonOf(err error) uint32 {
	reasons := map[error]uint32{api.ErrVersion: 8, api.ErrAlgo: 3, api.ErrKey: 3, api.ErrSign: 3, api.ErrMac: 5, api.ErrHost: 9}
	if n, ok := reasons[err]; ok {
		return n
	}
	return 2
}

// checkFailed checks what the session did with an error: it told it, sent the
// payloads and then its disconnect, if it has to send one, and is gone.
func (e *end) checkFailed(what string, got, want error, where string, payloads ...string) {
	e.Helper()
	if f := faultOf(got); f != (fault{where, want}) {
		e.Errorf("%s: %v; want %s: %v", what, got, where, want)
	}
	if want != api.ErrGone {
		payloads = append(payloads, disconnect(reasonOf(want), ""))
	}
	e.checkGone(what, payloads...)
}

// checkGone checks that the session has sent the payloads, and is gone for good.
func (e *end) checkGone(what string, payloads ...string) {
	e.Helper()
	sent := e.sent()
	if len(sent) != len(payloads) {
		e.Errorf("%s: %.200q was sent, not %.200q", what, sent, payloads)
		return
	}
	for i := range sent {
		if sent[i] != payloads[i] {
			e.Errorf("%s: %.200q was sent, not %.200q", what, sent, payloads)
		}
	}
	before := e.s.Vars()
	for range 2 {
		for _, s := range []string{"", "SSH-2.0-x\r\n", bytesOf(300), e.packet(data("x")), e.packet(disconnect(1, "")), e.packet(newkeys)} {
			if l, err := e.s.Feed(s); len(l) != 0 || err != api.ErrGone {
				e.Errorf("%s: Feed afterwards: %q, %v", what, l, err)
			}
		}
		for _, s := range []string{data("x"), "", bytesOf(40000), newkeys} {
			if err := e.s.Send(s); err != api.ErrGone {
				e.Errorf("%s: Send afterwards: %v", what, err)
			}
		}
		if err := e.s.Rekey(); err != api.ErrGone {
			e.Errorf("%s: Rekey afterwards: %v", what, err)
		}
		e.s.Close(11, "afterwards")
		if out := e.s.Out(); out != "" {
			e.Errorf("%s: Out afterwards: %q", what, out)
		}
		if v := e.s.Vars(); v.Open || !v.Gone || v != before {
			e.Errorf("%s: %+v afterwards", what, v)
		}
	}
}

func bytesOf(n int) string { return string(bytes.Repeat([]byte{0xee}, n)) }
