package offer_test

import (
	"math/rand"
	"slices"
	"strings"
	"testing"

	"speakeasy/api"
	"speakeasy/message"
	"speakeasy/offer"
)

var cookie = [16]byte{0x00, 0x01, 0x7f, 0x80, 0xff, ',', '\n', 7, 8, 9, 10, 11, 12, 13, 14, 0xfe}

// letters returns lists that all differ, and a list of each size.
func letters() offer.Lists {
	return offer.Lists{
		Kex:    []string{"k1", "k2"},
		Host:   []string{"h"},
		Cipher: []string{"c1", "c2", "c3"},
		Mac:    []string{"m2", "m1"},
		Zip:    []string{"z", "y", "x", "z"},
	}
}

func sameLists(a, b offer.Lists) bool {
	return slices.Equal(a.Kex, b.Kex) && slices.Equal(a.Host, b.Host) && slices.Equal(a.Cipher, b.Cipher) &&
		slices.Equal(a.Mac, b.Mac) && slices.Equal(a.Zip, b.Zip)
}

func sameMessage(a, b message.Msg) bool {
	return a.Kind == b.Kind && slices.Equal(a.U, b.U) && slices.Equal(a.S, b.S) && slices.Equal(a.B, b.B) && slices.EqualFunc(a.N, b.N, slices.Equal)
}

// kexinit returns the message that the document says Make returns.
func kexinit(l offer.Lists, guess bool) message.Msg {
	return message.Msg{
		Kind: 20,
		U:    []uint32{0},
		S:    []string{string(cookie[:])},
		N:    [][]string{l.Kex, l.Host, l.Cipher, l.Cipher, l.Mac, l.Mac, l.Zip, l.Zip, {}, {}},
		B:    []bool{guess},
	}
}

// P13.1: one algorithm in each list, in new memory each time.
func TestOurs(t *testing.T) {
	want := offer.Lists{
		Kex:    []string{"curve25519-sha256"},
		Host:   []string{"ssh-ed25519"},
		Cipher: []string{"chacha20-poly1305"},
		Mac:    []string{"none"},
		Zip:    []string{"none"},
	}
	for range 2 {
		l := offer.Ours()
		if !sameLists(l, want) {
			t.Fatalf("%q", l)
		}
		for _, list := range [][]string{l.Kex, l.Host, l.Cipher, l.Mac} {
			list[0] = "changed"
			_ = append(list, "more")
		}
		if l.Zip[0] != "none" {
			t.Errorf("the lists of MACs and of compression methods share memory")
		}
	}
}

// P13.1: ordinary lists, empty ones, and names that no message can have.
func TestMake(t *testing.T) {
	tests := map[string]offer.Lists{
		"ours":         offer.Ours(),
		"letters":      letters(),
		"nil":          {},
		"empty":        {Kex: []string{}, Host: []string{}, Cipher: []string{}, Mac: []string{}, Zip: []string{}},
		"one only":     {Mac: []string{"m"}},
		"not valid":    {Kex: []string{""}, Host: []string{"a,b"}, Cipher: []string{"\x00\xff"}, Mac: []string{strings.Repeat("a", 65)}, Zip: []string{"a b"}},
		"a long list":  {Zip: slices.Repeat([]string{"name"}, 5000)},
		"name repeats": {Host: []string{"a", "a", "a"}},
	}
	for name, l := range tests {
		for _, guess := range []bool{false, true} {
			if m := offer.Make(cookie, l, guess); !sameMessage(m, kexinit(l, guess)) {
				t.Errorf("%s, %v: %d, %d, %.99q, %.99q, %v", name, guess, m.Kind, m.U, m.S, m.N, m.B)
			}
		}
	}
	if m := offer.Make([16]byte{}, letters(), true); m.S[0] != strings.Repeat("\x00", 16) {
		t.Errorf("cookie of zero bytes: %q", m.S)
	}
}

// P13.1: the message is one that can be sent, with the fields in their order.
func TestMakeBytes(t *testing.T) {
	m := offer.Make(cookie, letters(), true)
	want := "\x14" + string(cookie[:]) +
		"\x00\x00\x00\x05k1,k2" + "\x00\x00\x00\x01h" +
		"\x00\x00\x00\x08c1,c2,c3" + "\x00\x00\x00\x08c1,c2,c3" +
		"\x00\x00\x00\x05m2,m1" + "\x00\x00\x00\x05m2,m1" +
		"\x00\x00\x00\x07z,y,x,z" + "\x00\x00\x00\x07z,y,x,z" +
		"\x00\x00\x00\x00" + "\x00\x00\x00\x00" + "\x01" + "\x00\x00\x00\x00"
	if err := m.Check(); err != nil || m.Bytes() != want {
		t.Errorf("%v, %q", err, m.Bytes())
	}
	back, err := message.Parse(want)
	if err != nil || !sameMessage(back, m) {
		t.Errorf("%v, %d, %d, %q, %q, %v", err, back.Kind, back.U, back.S, back.N, back.B)
	}
}

// P13.1: the message shares memory neither with the lists nor within itself.
func TestMakeMemory(t *testing.T) {
	l := letters()
	spare := append(make([]string, 0, 9), l.Cipher...)
	l.Cipher = spare
	m := offer.Make(cookie, l, false)
	for _, list := range [][]string{l.Kex, l.Host, l.Cipher, l.Mac, l.Zip} {
		list[0] = "changed"
	}
	if !sameMessage(m, kexinit(letters(), false)) {
		t.Errorf("a change of the lists changed the message: %q", m.N)
	}
	for i := range m.N {
		want := kexinit(letters(), false)
		for j := range m.N[i] {
			m.N[i][j] = "mine"
			want.N[i] = slices.Clone(want.N[i])
			want.N[i][j] = "mine"
		}
		_ = append(m.N[i], "more")
		if !sameMessage(m, want) {
			t.Errorf("a change of list %d: %q", i, m.N)
		}
		m = offer.Make(cookie, letters(), false)
	}
	if full := spare[:cap(spare)]; slices.Contains(full, "more") || slices.Contains(full, "mine") {
		t.Errorf("the spare capacity was changed: %q", full)
	}
}

// P13.1, P13.2: ordinary lists, empty ones, repeated and arbitrary names.
func TestChoose(t *testing.T) {
	tests := []struct {
		client, server []string
		want           string
		err            error
	}{
		{[]string{"a", "b", "c"}, []string{"c", "b"}, "b", nil},
		{[]string{"c", "b"}, []string{"a", "b", "c"}, "c", nil},
		{[]string{"a"}, []string{"a"}, "a", nil},
		{[]string{"x", "y", "a"}, []string{"b", "a"}, "a", nil},
		{[]string{"b", "a", "b"}, []string{"a", "b", "a"}, "b", nil},
		{[]string{"a", "b"}, []string{"c", "d"}, "", api.ErrAlgo},
		{[]string{"a"}, []string{"A", "a ", "aa", ""}, "", api.ErrAlgo},
		{[]string{"none", "none"}, []string{"non"}, "", api.ErrAlgo},
		{nil, nil, "", api.ErrAlgo},
		{nil, []string{"a"}, "", api.ErrAlgo},
		{[]string{"a"}, nil, "", api.ErrAlgo},
		{[]string{}, []string{}, "", api.ErrAlgo},
		{[]string{"", "a"}, []string{"a", ""}, "", nil},
		{[]string{"\x00,\xff", "a"}, []string{"a", "\x00,\xff"}, "\x00,\xff", nil},
		{[]string{"é", "\xc3"}, []string{"\xc3", "\xa9"}, "\xc3", nil},
	}
	for _, test := range tests {
		client, server := slices.Clone(test.client), slices.Clone(test.server)
		got, err := offer.Choose(client, server)
		if got != test.want || err != test.err {
			t.Errorf("%q and %q: %q, %v", test.client, test.server, got, err)
		}
		if !slices.Equal(client, test.client) || !slices.Equal(server, test.server) {
			t.Errorf("%q and %q became %q and %q", test.client, test.server, client, server)
		}
	}
}

// randomList returns up to most names out of a few.
func randomList(source *rand.Rand, most int) []string {
	var l []string
	for range source.Intn(most + 1) {
		l = append(l, string([]byte{byte('a' + source.Intn(8))}))
	}
	return l
}

// P13.2: the chosen name is in both lists, and none before it in the client's list is
// in the server's; where no name is chosen, no name is in both.
func TestChooseFirst(t *testing.T) {
	source := rand.New(rand.NewSource(1))
	for range 5000 {
		client, server := randomList(source, 6), randomList(source, 6)
		got, err := offer.Choose(client, server)
		before := client
		if err == nil {
			i := slices.Index(client, got)
			if i < 0 || !slices.Contains(server, got) {
				t.Fatalf("%q and %q: %q", client, server, got)
			}
			before = client[:i]
		} else if got != "" || err != api.ErrAlgo {
			t.Fatalf("%q and %q: %q, %v", client, server, got, err)
		}
		for _, name := range before {
			if slices.Contains(server, name) {
				t.Fatalf("%q and %q: %q, %v, not %q", client, server, got, err, name)
			}
		}
	}
}
