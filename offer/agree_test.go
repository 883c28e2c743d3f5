package offer_test

import (
	"fmt"
	"math/rand"
	"slices"
	"strings"
	"testing"

	"speakeasy/api"
	"speakeasy/message"
	"speakeasy/offer"
)

const chacha = "chacha20-poly1305"

var places = []string{"kex", "host", "cipher 0", "cipher 1", "mac 0", "mac 1", "zip 0", "zip 1"}

// offered returns a kexinit with these lists for the places, and empty ones behind them.
func offered(guess bool, lists ...string) message.Msg {
	m := message.Msg{Kind: 20, U: []uint32{0}, S: []string{string(cookie[:])}, N: make([][]string, 10), B: []bool{guess}}
	for i, list := range lists {
		if list != "" {
			m.N[i] = strings.Split(list, ",")
		}
	}
	return m
}

// clone returns a message that shares no memory with m.
func clone(m message.Msg) message.Msg {
	m.U, m.S, m.B, m.N = slices.Clone(m.U), slices.Clone(m.S), slices.Clone(m.B), slices.Clone(m.N)
	for i := range m.N {
		m.N[i] = slices.Clone(m.N[i])
	}
	return m
}

// checkAgree checks what two messages lead to, and that they stay as they are.
func checkAgree(t *testing.T, what string, client, server message.Msg, want offer.Chosen) {
	t.Helper()
	a, b := clone(client), clone(server)
	got, err := offer.Agree(a, b)
	if got != want || err != nil {
		t.Errorf("%s: %+v, %v; want %+v", what, got, err, want)
	}
	if !sameMessage(a, client) || !sameMessage(b, server) {
		t.Errorf("%s: the messages became %q, %q and %q, %q", what, a.S, a.N, b.S, b.N)
	}
}

// checkAlgo checks that nothing in common is found at a place.
func checkAlgo(t *testing.T, what string, client, server message.Msg, where string) {
	t.Helper()
	got, err := offer.Agree(client, server)
	fault, ok := err.(*api.Fault)
	if got != (offer.Chosen{}) || !ok || fault.Where != where || fault.Err != api.ErrAlgo {
		t.Errorf("%s: %+v, %v; want %s", what, got, err, where)
	}
}

// P13.1: two ends of this program.
func TestAgreeOurs(t *testing.T) {
	want := offer.Chosen{
		Kex: "curve25519-sha256", Host: "ssh-ed25519",
		Cipher: [2]string{chacha, chacha}, Mac: [2]string{"implied", "implied"}, Zip: [2]string{"none", "none"},
	}
	for _, guess := range []bool{false, true} {
		checkAgree(t, "ours", offer.Make(cookie, offer.Ours(), guess), offer.Make([16]byte{}, offer.Ours(), guess), want)
	}
}

// P13.1, P13.2: each list has its place, and the order of the client counts.
func TestAgreePlaces(t *testing.T) {
	client := offered(false, "k1,k2,k3", "h1,h2", "c1,c2", "d2,d1", "m1,m2", "n2,n1", "x2,z1", "y1,z2")
	server := offered(false, "k3,k2", "h2,h1", "c2,c1", "d1,d2", "m2", "n1,n2", "z1,x1", "z2")
	checkAgree(t, "client first", client, server, offer.Chosen{
		Kex: "k2", Host: "h1", Cipher: [2]string{"c1", "d2"}, Mac: [2]string{"m2", "n2"}, Zip: [2]string{"z1", "z2"},
	})
	checkAgree(t, "server first", server, client, offer.Chosen{
		Kex: "k3", Host: "h2", Cipher: [2]string{"c2", "d1"}, Mac: [2]string{"m2", "n1"}, Zip: [2]string{"z1", "z2"},
	})
}

// P13.1: the MACs of a direction are compared unless its cipher is the one that needs none.
func TestAgreeMac(t *testing.T) {
	one := func(ciphers, macs [2]string) message.Msg {
		return offered(false, "k", "h", ciphers[0], ciphers[1], macs[0], macs[1], "z", "z")
	}
	want := func(ciphers, macs [2]string) offer.Chosen {
		return offer.Chosen{Kex: "k", Host: "h", Cipher: ciphers, Mac: macs, Zip: [2]string{"z", "z"}}
	}
	both := [2]string{chacha + ",aes", "aes," + chacha}
	checkAgree(t, "nothing in common at 0", one(both, [2]string{"a", "m"}), one(both, [2]string{"b", "m"}),
		want([2]string{chacha, "aes"}, [2]string{"implied", "m"}))
	checkAgree(t, "no MACs at 0", one(both, [2]string{"", "m"}), one(both, [2]string{"", "m"}),
		want([2]string{chacha, "aes"}, [2]string{"implied", "m"}))
	checkAlgo(t, "nothing in common at 1", one(both, [2]string{"m", "a"}), one(both, [2]string{"m", "b"}), "mac 1")
	both[0], both[1] = both[1], both[0]
	checkAgree(t, "nothing in common at 1", one(both, [2]string{"m", "a"}), one(both, [2]string{"m", "b"}),
		want([2]string{"aes", chacha}, [2]string{"m", "implied"}))
	checkAlgo(t, "nothing in common at 0", one(both, [2]string{"a", "m"}), one(both, [2]string{"b", "m"}), "mac 0")
	both = [2]string{chacha, chacha}
	checkAgree(t, "MACs in common", one(both, [2]string{"m", "m"}), one(both, [2]string{"m", "m"}),
		want(both, [2]string{"implied", "implied"}))
	both = [2]string{chacha + "@openssh.com", "chacha20"}
	checkAgree(t, "similar ciphers", one(both, [2]string{"m", "implied"}), one(both, [2]string{"m", "implied"}),
		want(both, [2]string{"m", "implied"}))
}

// P13.1: each list that has nothing in common is told by its place, and the first one counts.
func TestAgreeErrors(t *testing.T) {
	for missing := range 1 << len(places) {
		var client, server, empty []string
		for i := range places {
			if missing>>i&1 == 1 {
				client, server, empty = append(client, "a,b"), append(server, "c,d"), append(empty, "")
				continue
			}
			client, server, empty = append(client, "a,b"), append(server, "c,b"), append(empty, "a,b")
		}
		a, b, c := offered(true, client...), offered(true, server...), offered(true, empty...)
		if missing == 0 {
			if _, err := offer.Agree(a, b); err != nil {
				t.Errorf("nothing is missing: %v", err)
			}
			continue
		}
		first := 0
		for missing>>first&1 == 0 {
			first++
		}
		what := fmt.Sprintf("missing: %08b", missing)
		checkAlgo(t, what, a, b, places[first])
		checkAlgo(t, what, b, a, places[first])
		checkAlgo(t, what+", empty", a, c, places[first])
		checkAlgo(t, what+", empty", c, a, places[first])
		checkAlgo(t, what+", both empty", c, c, places[first])
	}
}

// P13.1: languages and the last number are not compared.
func TestAgreeIgnores(t *testing.T) {
	lists := []string{"k", "h", chacha, chacha, "", "", "z", "z"}
	client := offered(false, append(slices.Clone(lists), "de", "fr")...)
	server := offered(false, append(slices.Clone(lists), "en", "")...)
	client.U[0], server.U[0] = 7, 1<<32-1
	checkAgree(t, "languages", client, server, offer.Chosen{
		Kex: "k", Host: "h", Cipher: [2]string{chacha, chacha}, Mac: [2]string{"implied", "implied"}, Zip: [2]string{"z", "z"},
	})
}

// P13.1: a guess is wrong if the first elements of one of two lists differ, whatever is chosen.
func TestSkip(t *testing.T) {
	tests := []struct {
		clientKex, clientHost, serverKex, serverHost string
		kex, host                                    string
		wrong                                        bool
	}{
		{"k", "h", "k", "h", "k", "h", false},
		{"k,l", "h,i", "k,m", "h,j", "k", "h", false},
		{"k,l", "h", "l,k", "h", "k", "h", true},
		{"x,k", "h", "k", "h", "k", "h", true},
		{"k", "h", "x,k", "h", "k", "h", true},
		{"k", "h,i", "k", "i,h", "k", "h", true},
		{"k", "x,h", "k", "h", "k", "h", true},
		{"k", "h", "k", "x,h", "k", "h", true},
		{"x,k", "y,h", "k", "h", "k", "h", true},
		{"k,l", "h,i", "l,k", "i,h", "k", "h", true},
	}
	for _, test := range tests {
		for guesses := range 4 {
			guess := [2]bool{guesses&1 == 1, guesses&2 == 2}
			client := offered(guess[0], test.clientKex, test.clientHost, "c,a", "c", "m", "m", "z", "z,a")
			server := offered(guess[1], test.serverKex, test.serverHost, "a,c", "c", "m", "m", "z", "a,z")
			checkAgree(t, fmt.Sprintf("%v with guesses %v", test, guess), client, server, offer.Chosen{
				Kex: test.kex, Host: test.host, Cipher: [2]string{"c", "c"}, Mac: [2]string{"m", "m"}, Zip: [2]string{"z", "z"},
				Skip: [2]bool{guess[0] && test.wrong, guess[1] && test.wrong},
			})
		}
	}
}

// checkKind checks that a message beside a good one, and beside itself, is not taken.
func checkKind(t *testing.T, what string, bad message.Msg) {
	t.Helper()
	good := offer.Make(cookie, offer.Ours(), false)
	other := offered(false, "nothing,in,common")
	for _, pair := range [][2]message.Msg{{bad, good}, {good, bad}, {bad, bad}, {bad, other}, {other, bad}} {
		if got, err := offer.Agree(pair[0], pair[1]); got != (offer.Chosen{}) || err != api.ErrKind {
			t.Errorf("%s: %+v, %v", what, got, err)
		}
	}
}

// P13.1: messages that are no kexinit, or one that cannot be encoded.
func TestAgreeKind(t *testing.T) {
	checkKind(t, "zero", message.Msg{})
	for kind := range 300 {
		m := offer.Make(cookie, offer.Ours(), false)
		if m.Kind = kind - 20; m.Kind != 20 {
			checkKind(t, fmt.Sprint("kind ", m.Kind), m)
		}
	}
	checkKind(t, "newkeys", message.Msg{Kind: 21})
	changes := map[string]func(m *message.Msg){
		"no number":           func(m *message.Msg) { m.U = nil },
		"two numbers":         func(m *message.Msg) { m.U = append(m.U, 0) },
		"no cookie":           func(m *message.Msg) { m.S = nil },
		"two cookies":         func(m *message.Msg) { m.S = append(m.S, m.S[0]) },
		"a short cookie":      func(m *message.Msg) { m.S[0] = m.S[0][1:] },
		"a long cookie":       func(m *message.Msg) { m.S[0] += "a" },
		"no lists":            func(m *message.Msg) { m.N = nil },
		"nine lists":          func(m *message.Msg) { m.N = m.N[:9] },
		"eleven lists":        func(m *message.Msg) { m.N = append(m.N, nil) },
		"no guess":            func(m *message.Msg) { m.B = nil },
		"two guesses":         func(m *message.Msg) { m.B = append(m.B, true) },
		"an empty name":       func(m *message.Msg) { m.N[4] = append(m.N[4], "") },
		"a name with a comma": func(m *message.Msg) { m.N[0] = append(m.N[0], "a,b") },
		"a language no name":  func(m *message.Msg) { m.N[9] = []string{" "} },
		"a list too long":     func(m *message.Msg) { m.N[7] = append(m.N[7], slices.Repeat([]string{"name"}, 820)...) },
	}
	for what, change := range changes {
		m := offer.Make(cookie, offer.Ours(), true)
		change(&m)
		checkKind(t, what, m)
	}
}

// modelChoose returns the first name of client that server has, by counting places.
func modelChoose(client, server []string) string {
	best, at := "", len(client)
	for _, name := range server {
		if i := slices.Index(client, name); i >= 0 && i < at {
			best, at = name, i
		}
	}
	return best
}

// P13.1, P13.2: arbitrary lists, compared with an independent model.
func TestAgreeRandom(t *testing.T) {
	source := rand.New(rand.NewSource(2))
	agreed := 0
	for range 20000 {
		var sent [2]message.Msg
		for end := range sent {
			sent[end] = offered(source.Intn(2) == 1)
			for i := range sent[end].N {
				sent[end].N[i] = randomList(source, 12)
				if i/2 == 1 && source.Intn(3) == 0 {
					sent[end].N[i] = slices.Insert(sent[end].N[i], 0, chacha)
				}
			}
		}
		var names [8]string
		failed := ""
		for i := range names {
			names[i] = modelChoose(sent[0].N[i], sent[1].N[i])
			if i/2 == 2 && names[i-2] == chacha {
				names[i] = "implied"
			}
			if names[i] == "" && failed == "" {
				failed = places[i]
			}
		}
		if failed != "" {
			checkAlgo(t, fmt.Sprintf("%q and %q", sent[0].N, sent[1].N), sent[0], sent[1], failed)
			continue
		}
		agreed++
		wrong := sent[0].N[0][0] != sent[1].N[0][0] || sent[0].N[1][0] != sent[1].N[1][0]
		checkAgree(t, fmt.Sprintf("%q and %q", sent[0].N, sent[1].N), sent[0], sent[1], offer.Chosen{
			Kex: names[0], Host: names[1],
			Cipher: [2]string{names[2], names[3]}, Mac: [2]string{names[4], names[5]}, Zip: [2]string{names[6], names[7]},
			Skip: [2]bool{wrong && sent[0].B[0], wrong && sent[1].B[0]},
		})
	}
	if agreed < 1000 {
		t.Errorf("only %d agreed", agreed)
	}
}
