package auth_test

import (
	"math"
	"slices"
	"strings"
	"testing"

	"speakeasy/api"
	"speakeasy/auth"
	"speakeasy/message"
	"speakeasy/store"
)

// P17.1: a new server, with any store and any number of attempts.
func TestNew(t *testing.T) {
	for _, s := range []*store.Store{nil, store.New(0, 0), tenants(t)} {
		for _, tries := range []int{math.MinInt, -1, 0, 1, 20, 21, math.MaxInt} {
			isOut(t, "new", auth.New(s, session, tries), 0)
		}
	}
}

// P17.1: as many attempts may fail as are permitted, between 1 and 20.
func TestTries(t *testing.T) {
	for tries, want := range map[int]int{math.MinInt: 1, -1: 1, 0: 1, 1: 1, 2: 2, 3: 3, 19: 19, 20: 20, 21: 20, 100: 20, 1<<32 + 2: 20, math.MaxInt: 20} {
		a := started(t, tenants(t), tries)
		for i := range want {
			isOut(t, "before an attempt", a, i)
			handles(t, "a query", a, query("t", public(seedT)), pkOK(public(seedT)))
			handles(t, "a failed attempt", a, asking("t", connection, "none", ""), failure())
		}
		for _, m := range []message.Msg{request(session, seedT, "t"), query("t", public(seedT)), asking("", "", "", "")} {
			refuses(t, "one more", a, m, api.ErrAuth)
		}
		for _, m := range invalid(request(session, seedT, "t")) {
			refuses(t, "an invalid one more", a, m, api.ErrKind)
		}
		isOut(t, "at the end", a, want)
		m, err := a.Service(service(userauth))
		wants(t, "the service again", m, err, accept(userauth), nil)
		m, err = a.Service(service(connection))
		wants(t, "the other service", m, err, message.Msg{}, api.ErrKind)
		refuses(t, "again one more", a, request(session, seedT, "t"), api.ErrAuth)
		isOut(t, "at the very end", a, want)
	}
}

// P17.1: a login succeeds as the last attempt that is permitted.
func TestLastTry(t *testing.T) {
	for tries := 1; tries <= 20; tries++ {
		a := started(t, tenants(t), tries)
		for range tries - 1 {
			handles(t, "a failed attempt", a, request([32]byte{}, seedT, "t"), failure())
		}
		handles(t, "the last attempt", a, request(session, seedT, "t"), success())
		isIn(t, "the last attempt", a, "t", public(seedT), tries-1)
		refuses(t, "after it", a, asking("t", connection, "none", ""), api.ErrState)
		isIn(t, "after it", a, "t", public(seedT), tries-1)
	}
}

// P17.1: queries are no attempts, however many there are.
func TestManyQueries(t *testing.T) {
	a := started(t, tenants(t), 1)
	for range 100 {
		handles(t, "a query", a, query("t", public(seedT2)), pkOK(public(seedT2)))
		isOut(t, "a query", a, 0)
	}
	handles(t, "a request with the other key", a, request(session, seedT, "t"), success())
	isIn(t, "a request with the other key", a, "t", public(seedT), 0)
}

// names returns what is no service, or not one before login.
func names() []string {
	return []string{"", "ssh", "ssh-userauth ", " ssh-userauth", "ssh-userauth\x00", "SSH-USERAUTH", "ssh-usera", "ssh-connection ", "ssh-connectio", "SSH-Connection", "ssh-connection,ssh-userauth", "userauth", strings.Repeat("x", 32768)}
}

// P17.1: the services, before and after login.
func TestService(t *testing.T) {
	a := auth.New(tenants(t), session, 2)
	check := func(name string, want message.Msg, wrong error) {
		t.Helper()
		m, err := a.Service(service(name))
		wants(t, name, m, err, want, wrong)
	}
	checkOthers := func() {
		t.Helper()
		for _, name := range names() {
			check(name, message.Msg{}, api.ErrKind)
		}
		for _, m := range append(others(5), invalid(service(userauth))...) {
			reply, err := a.Service(m)
			wants(t, "no service-request", reply, err, message.Msg{}, api.ErrKind)
		}
	}
	check(connection, message.Msg{}, api.ErrKind)
	checkOthers()
	refuses(t, "before the service", a, request(session, seedT, "t"), api.ErrState)
	for range 2 {
		check(userauth, accept(userauth), nil)
		check(connection, message.Msg{}, api.ErrKind)
		checkOthers()
	}
	handles(t, "a failed attempt", a, request(session, seedU, "t"), failure())
	check(connection, message.Msg{}, api.ErrKind)
	isOut(t, "before login", a, 1)
	handles(t, "a login", a, request(session, seedU, "u"), success())
	for range 2 {
		check(connection, accept(connection), nil)
		check(userauth, accept(userauth), nil)
		checkOthers()
	}
	isIn(t, "at the end", a, "u", public(seedU), 1)
	refuses(t, "at the end", a, request(session, seedT, "t"), api.ErrState)
}

// P17.1: the order of errors of Handle, before the service, before login and after
// it; calls with an error have no effect.
func TestHandleErrors(t *testing.T) {
	a := auth.New(tenants(t), session, 1)
	good := request(session, seedT, "t")
	checkKinds := func() {
		t.Helper()
		for _, m := range slices.Concat(others(50), invalid(good), invalid(query("t", public(seedT)))) {
			refuses(t, "no auth-request", a, m, api.ErrKind)
		}
	}
	checkStates := func() {
		t.Helper()
		for _, m := range []message.Msg{good, query("t", public(seedT)), asking("t", connection, "none", ""), asking("", "", "", ""), request(session, seedX, "t")} {
			refuses(t, "not now", a, m, api.ErrState)
		}
	}
	checkKinds()
	checkStates()
	if m, err := a.Service(service(connection)); err != api.ErrKind || !equal(m, message.Msg{}) {
		t.Fatalf("%s, %v", show(m), err)
	}
	checkStates()
	isOut(t, "before the service", a, 0)
	if _, err := a.Service(service(userauth)); err != nil {
		t.Fatal(err)
	}
	checkKinds()
	isOut(t, "before login", a, 0)
	handles(t, "the login", a, good, success())
	checkKinds()
	checkStates()
	isIn(t, "after login", a, "t", public(seedT), 0)
}

// P17.1, P17.2: without a store, and with an empty one, every attempt fails.
func TestNoKeys(t *testing.T) {
	for _, s := range []*store.Store{nil, store.New(0, 0), store.New(5, 5)} {
		for _, user := range []string{"t", "", "x"} {
			a := started(t, s, 2)
			handles(t, "a query", a, query(user, public(seedT)), failure())
			handles(t, "a request", a, request(session, seedT, user), failure())
			refuses(t, "a third attempt", a, request(session, seedT, user), api.ErrAuth)
			isOut(t, "without keys", a, 2)
		}
	}
}

// P17.2: a server asks the store as it is at the time of the request.
func TestStoreChanges(t *testing.T) {
	s := tenants(t)
	a := started(t, s, 20)
	handles(t, "an unknown key", a, request(session, seedX, "t"), failure())
	if err := s.Add("t", public(seedX)); err != nil {
		t.Fatal(err)
	}
	handles(t, "a query for an added key", a, query("t", public(seedX)), pkOK(public(seedX)))
	if who, err := s.Revoke(public(seedX)); who != "t" || err != nil {
		t.Fatal(who, err)
	}
	handles(t, "a request with a revoked key", a, request(session, seedX, "t"), failure())
	if err := s.Add("u", public(seedX)); err != nil {
		t.Fatal(err)
	}
	handles(t, "a key that another tenant has now", a, request(session, seedX, "t"), failure())
	isOut(t, "before login", a, 3)
	handles(t, "that tenant", a, request(session, seedX, "u"), success())
	if _, err := s.Revoke(public(seedX)); err != nil {
		t.Fatal(err)
	}
	isIn(t, "after the key was revoked", a, "u", public(seedX), 3)
	b := started(t, s, 1)
	handles(t, "another session", b, request(session, seedX, "u"), failure())
	isOut(t, "another session", b, 1)
}

// P17.1: what a call returns or was given can be changed without an effect.
func TestMemory(t *testing.T) {
	a := started(t, tenants(t), 20)
	for range 2 {
		m, err := a.Handle(asking("t", connection, "none", ""))
		wants(t, "a failed attempt", m, err, failure(), nil)
		m.N[0][0], m.B[0] = "password", true
		m, err = a.Handle(query("t", public(seedT)))
		wants(t, "a query", m, err, pkOK(public(seedT)), nil)
		m.S[0], m.S[1] = "", ""
	}
	given := request(session, seedT, "t")
	spare := append(slices.Clone(given.S), "spare")
	given.S = spare[:4]
	handles(t, "the login", a, given, success())
	if want := request(session, seedT, "t"); !equal(given, want) || spare[4] != "spare" {
		t.Errorf("the request was changed: %s", show(given))
	}
	clear(spare)
	isIn(t, "the login", a, "t", public(seedT), 2)
}

// P17.1: two servers have nothing in common but the store.
func TestApart(t *testing.T) {
	s := tenants(t)
	a, b := started(t, s, 2), auth.New(s, session, 2)
	handles(t, "one", a, request(session, seedT, "t"), success())
	isOut(t, "the other", b, 0)
	refuses(t, "the other", b, request(session, seedT, "t"), api.ErrState)
}
