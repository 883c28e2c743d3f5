package sha2_test

import (
	"crypto/sha256"
	"crypto/sha512"
	"encoding/hex"
	"slices"
	"strings"
	"testing"

	"speakeasy/sha2"
)

func sum256(l ...string) string {
	sum := sha2.Sum256(l...)
	return hex.EncodeToString(sum[:])
}

func sum512(l ...string) string {
	sum := sha2.Sum512(l...)
	return hex.EncodeToString(sum[:])
}

// sample returns n bytes, among them zero bytes and bytes that are no UTF-8.
func sample(n int) string {
	b := make([]byte, n)
	for i := range b {
		b[i] = byte(i*i + 7*i)
	}
	return string(b)
}

// P1.1: the examples of FIPS 180-4.
func TestExamples(t *testing.T) {
	tests := []struct{ input, sum256, sum512 string }{
		{"", "e3b0c44298fc1c149afbf4c8996fb92427ae41e4649b934ca495991b7852b855",
			"cf83e1357eefb8bdf1542850d66d8007d620e4050b5715dc83f4a921d36ce9ce47d0d13c5d85f2b0ff8318d2877eec2f63b931bd47417a81a538327af927da3e"},
		{"abc", "ba7816bf8f01cfea414140de5dae2223b00361a396177a9cb410ff61f20015ad",
			"ddaf35a193617abacc417349ae20413112e6fa4e89a97ea20a9eeee64b55d39a2192992a274fc1a836ba3c23a3feebbd454d4423643ce80e2a9ac94fa54ca49f"},
		{"abcdbcdecdefdefgefghfghighijhijkijkljklmklmnlmnomnopnopq", "248d6a61d20638b8e5c026930c3e6039a33ce45964ff2167f6ecedd419db06c1",
			"204a8fc6dda82f0a0ced7beb8e08a41657c16ef468b228a8279be331a703c33596fd15c13b1b07f9aa1d3bea57789ca031ad85c7a71dd70354ec631238ca3445"},
		{strings.Repeat("a", 1000000), "cdc76e5c9914fb9281a1c7e284d73e67f1809a48a497200e046d39ccc7112cd0",
			"e718483d0ce769644e2e42c7bc15b4638e1f98b13b2044285632a803afa973ebde0ff244877ea60a4cb0432ce577c31beb009c5c2c49aa2e4eadb217ad8cc09b"},
	}
	for _, test := range tests {
		if got := sum256(test.input); got != test.sum256 {
			t.Errorf("Sum256 of %d bytes: %s, want %s", len(test.input), got, test.sum256)
		}
		if got := sum512(test.input); got != test.sum512 {
			t.Errorf("Sum512 of %d bytes: %s, want %s", len(test.input), got, test.sum512)
		}
	}
}

// P1.1: every length around the ends of the first blocks, where the padding differs.
func TestLengths(t *testing.T) {
	for n := range 600 {
		s := sample(n)
		want256, want512 := sha256.Sum256([]byte(s)), sha512.Sum512([]byte(s))
		if got := sha2.Sum256(s); got != want256 {
			t.Errorf("Sum256 of %d bytes: %x, want %x", n, got, want256)
		}
		if got := sha2.Sum512(s); got != want512 {
			t.Errorf("Sum512 of %d bytes: %x, want %x", n, got, want512)
		}
	}
}

// P1.1: the hashes depend only on the concatenation.
func TestDivision(t *testing.T) {
	s := sample(300)
	want256, want512 := sum256(s), sum512(s)
	check := func(l ...string) {
		t.Helper()
		if sum256(l...) != want256 {
			t.Errorf("Sum256 of %d parts, the first of %d bytes, differs", len(l), len(l[0]))
		}
		if sum512(l...) != want512 {
			t.Errorf("Sum512 of %d parts, the first of %d bytes, differs", len(l), len(l[0]))
		}
	}
	for n := range len(s) + 1 {
		check(s[:n], s[n:])
		check("", s[:n], "", "", s[n:], "")
		check(s[:n/2], s[n/2:n], s[n:])
	}
	check(strings.Split(s, "")...)
	var bytes []string
	for i := range len(s) {
		bytes = append(bytes, s[i:i+1])
	}
	check(bytes...)
}

// P1.1: no strings at all are the empty input.
func TestNoStrings(t *testing.T) {
	for _, l := range [][]string{nil, {}, {""}, {"", "", ""}} {
		if sum256(l...) != sum256("") || sum256(l...) != "e3b0c44298fc1c149afbf4c8996fb92427ae41e4649b934ca495991b7852b855" {
			t.Errorf("Sum256 of %d empty strings: %s", len(l), sum256(l...))
		}
		if sum512(l...) != sum512("") {
			t.Errorf("Sum512 of %d empty strings: %s", len(l), sum512(l...))
		}
	}
}

// Rule 5: neither the list nor its spare capacity is modified.
func TestListUnmodified(t *testing.T) {
	whole := []string{"a", "b", "spare", "spare"}
	before := slices.Clone(whole)
	sha2.Sum256(whole[:2]...)
	sha2.Sum512(whole[:2]...)
	if !slices.Equal(whole, before) {
		t.Errorf("the list was modified: %q", whole)
	}
}

// P1.1: two lower-case digits for each byte, whatever its value.
func TestHex(t *testing.T) {
	var all []byte
	for i := range 256 {
		all = append(all, byte(i))
	}
	for _, s := range []string{"", "\x00", "\x0f\xf0", "\xff\xfe\xab", string(all)} {
		if got, want := sha2.Hex(s), hex.EncodeToString([]byte(s)); got != want {
			t.Errorf("Hex(%q): %q, want %q", s, got, want)
		}
	}
	if got := sha2.Hex("\x00\x9a\xef"); got != "009aef" {
		t.Errorf("Hex: %q", got)
	}
}
