package auth_test

import (
	"crypto/ed25519"
	"encoding/binary"
	"fmt"
	"slices"
	"strings"
	"testing"

	"speakeasy/auth"
	"speakeasy/message"
	"speakeasy/store"
)

// This file makes and judges requests with the standard library, without the
// packages below auth except for the type of messages.

const (
	algorithm  = "ssh-ed25519"
	connection = "ssh-connection"
	userauth   = "ssh-userauth"
	method     = "publickey"
)

func text(s string) string {
	return string(binary.BigEndian.AppendUint32(nil, uint32(len(s)))) + s
}

func blob(s string) string { return text(algorithm) + text(s) }

func secret(seed [32]byte) ed25519.PrivateKey { return ed25519.NewKeyFromSeed(seed[:]) }

// public returns the key of a seed.
func public(seed [32]byte) [32]byte { return [32]byte(secret(seed)[32:]) }

func signedData(id [32]byte, user string, key [32]byte) string {
	return text(string(id[:])) + "\x32" + text(user) + text(connection) + text(method) + "\x01" + text(algorithm) + text(blob(string(key[:])))
}

// signature returns a signature of any text.
func signature(seed [32]byte, data string) string {
	return string(ed25519.Sign(secret(seed), []byte(data)))
}

// asking returns an auth-request.
func asking(user, service, how, rest string) message.Msg {
	return message.Msg{Kind: 50, S: []string{user, service, how, rest}}
}

func queryRest(key [32]byte) string { return "\x00" + text(algorithm) + text(blob(string(key[:]))) }

// signedRest returns a rest with the given signature.
func signedRest(key [32]byte, sig string) string {
	return "\x01" + text(algorithm) + text(blob(string(key[:]))) + text(blob(sig))
}

func query(user string, key [32]byte) message.Msg {
	return asking(user, connection, method, queryRest(key))
}

func request(id, seed [32]byte, user string) message.Msg {
	key := public(seed)
	return asking(user, connection, method, signedRest(key, signature(seed, signedData(id, user, key))))
}

func service(name string) message.Msg { return message.Msg{Kind: 5, S: []string{name}} }

func accept(name string) message.Msg { return message.Msg{Kind: 6, S: []string{name}} }

// The replies to an auth-request.
func success() message.Msg { return message.Msg{Kind: 52} }

func failure() message.Msg {
	return message.Msg{Kind: 51, N: [][]string{{method}}, B: []bool{false}}
}

func pkOK(key [32]byte) message.Msg {
	return message.Msg{Kind: 60, S: []string{algorithm, blob(string(key[:]))}}
}

// equal compares messages; nil and empty lists are equivalent.
func equal(a, b message.Msg) bool {
	return a.Kind == b.Kind && slices.Equal(a.U, b.U) && slices.Equal(a.S, b.S) && slices.Equal(a.B, b.B) &&
		slices.EqualFunc(a.N, b.N, slices.Equal[[]string])
}

// show writes a message without its long texts and unprintable bytes.
func show(m message.Msg) string {
	return fmt.Sprintf("%d %v %.200q %.200q %v", m.Kind, m.U, m.S, m.N, m.B)
}

// judge returns the reply to an auth-request for a user who has these keys.
func judge(m message.Msg, id [32]byte, keys [][32]byte) message.Msg {
	for _, key := range keys {
		rest, ok := strings.CutPrefix(m.S[3], "\x00")
		if m.S[1] != connection || m.S[2] != method || m.S[3] == "" {
			continue
		}
		head := text(algorithm) + text(blob(string(key[:])))
		if ok && rest == head {
			return pkOK(key)
		}
		tail, named := strings.CutPrefix(m.S[3][1:], head)
		sig, signed := strings.CutPrefix(tail, "\x00\x00\x00\x53"+text(algorithm)+"\x00\x00\x00\x40")
		if !ok && named && signed && len(sig) == 64 && ed25519.Verify(key[:], []byte(signedData(id, m.S[0], key)), []byte(sig)) {
			return success()
		}
	}
	return failure()
}

// The session of the tests, two seeds of tenant t, one of u, and one of nobody.
var (
	session = [32]byte{1, 31: 9}
	seedT   = [32]byte{2}
	seedT2  = [32]byte{2, 2}
	seedU   = [32]byte{3}
	seedX   = [32]byte{4}
)

func tenants(t *testing.T) *store.Store {
	t.Helper()
	s := store.New(8, 8)
	for _, err := range []error{s.Add("t", public(seedT)), s.Add("t", public(seedT2)), s.Add("u", public(seedU))} {
		if err != nil {
			t.Fatal(err)
		}
	}
	return s
}

// started returns a server that has accepted ssh-userauth.
func started(t *testing.T, s *store.Store, tries int) *auth.Server {
	t.Helper()
	return startedIn(t, s, session, tries)
}

// startedIn returns such a server for any session.
func startedIn(t *testing.T, s *store.Store, id [32]byte, tries int) *auth.Server {
	t.Helper()
	a := auth.New(s, id, tries)
	if m, err := a.Service(service(userauth)); err != nil || !equal(m, accept(userauth)) {
		t.Fatalf("%s: %s, %v", userauth, show(m), err)
	}
	return a
}

// wants checks what a call returned.
func wants(t *testing.T, what string, m message.Msg, err error, want message.Msg, wrong error) {
	t.Helper()
	if err != wrong || !equal(m, want) {
		t.Fatalf("%s: %s, %v, not %s, %v", what, show(m), err, show(want), wrong)
	}
}

// handles checks the reply to an auth-request.
func handles(t *testing.T, what string, a *auth.Server, m, want message.Msg) {
	t.Helper()
	reply, err := a.Handle(m)
	wants(t, what, reply, err, want, nil)
}

// refuses checks that a call of Handle returns an error.
func refuses(t *testing.T, what string, a *auth.Server, m message.Msg, wrong error) {
	t.Helper()
	reply, err := a.Handle(m)
	wants(t, what, reply, err, message.Msg{}, wrong)
}

// isOut checks that nobody is logged in, and how many attempts failed.
func isOut(t *testing.T, what string, a *auth.Server, tries int) {
	t.Helper()
	if who, key, in := a.In(); who != "" || key != [32]byte{} || in || a.Tries() != tries {
		t.Fatalf("%s: %q is in with %x, %v; %d attempts failed, not %d", what, who, key, in, a.Tries(), tries)
	}
}

// isIn checks that a tenant is logged in, and how many attempts failed.
func isIn(t *testing.T, what string, a *auth.Server, tenant string, key [32]byte, tries int) {
	t.Helper()
	if who, k, in := a.In(); who != tenant || k != key || !in || a.Tries() != tries {
		t.Fatalf("%s: %q is in with %x, %v; %d attempts failed, not %d", what, who, k, in, a.Tries(), tries)
	}
}

// others returns a message of every kind except the given one, for which Check
// returns nil, and messages of no kind.
func others(kind int) []message.Msg {
	var l []message.Msg
	for k := -300; k < 600; k++ {
		if k == kind {
			continue
		}
		m := message.Msg{Kind: k}
		fields, _ := message.Fields(k)
		for i := range len(fields) {
			switch fields[i] {
			case 'u':
				m.U = append(m.U, 1)
			case 's', 'r':
				m.S = append(m.S, userauth)
			case 'c':
				m.S = append(m.S, "sixteen bytes...")
			case 'n':
				m.N = append(m.N, []string{method})
			case 'b':
				m.B = append(m.B, true)
			}
		}
		l = append(l, m)
	}
	return l
}

// invalid returns messages like m for which Check returns an error.
func invalid(m message.Msg) []message.Msg {
	var l []message.Msg
	change := func(f func(*message.Msg)) {
		c := message.Msg{Kind: m.Kind, S: slices.Clone(m.S)}
		f(&c)
		l = append(l, c)
	}
	change(func(c *message.Msg) { c.S = nil })
	change(func(c *message.Msg) { c.S = c.S[1:] })
	change(func(c *message.Msg) { c.S = c.S[:len(c.S)-1] })
	change(func(c *message.Msg) { c.S = append(c.S, "") })
	change(func(c *message.Msg) { c.U = []uint32{0} })
	change(func(c *message.Msg) { c.B = []bool{false} })
	change(func(c *message.Msg) { c.N = [][]string{nil} })
	for i := range m.S {
		change(func(c *message.Msg) { c.S[i] = strings.Repeat("x", 32769) })
	}
	return l
}
