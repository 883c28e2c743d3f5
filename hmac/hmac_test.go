package hmac_test

import (
	stdhmac "crypto/hmac"
	"crypto/sha256"
	"encoding/hex"
	"math"
	"slices"
	"strings"
	"testing"

	"speakeasy/hmac"
)

func sum(key string, l ...string) string {
	x := hmac.Sum(key, l...)
	return string(x[:])
}

func want(key, s string) string {
	h := stdhmac.New(sha256.New, []byte(key))
	h.Write([]byte(s))
	return string(h.Sum(nil))
}

// sample returns n bytes, among them zero bytes and bytes that are no UTF-8.
func sample(n int) string {
	b := make([]byte, n)
	for i := range b {
		b[i] = byte(i*i + 5*i + 200)
	}
	return string(b)
}

// P2.1: the examples of RFC 4231, and that of the chapter.
func TestExamples(t *testing.T) {
	tests := []struct{ key, input, sum string }{
		{"key", "The quick brown fox jumps over the lazy dog", "f7bc83f430538424b13298e6aa6fb143ef4d59a14946175997479dbc2d1a3cd8"},
		{strings.Repeat("\x0b", 20), "Hi There", "b0344c61d8db38535ca8afceaf0bf12b881dc200c9833da726e9376c2e32cff7"},
		{"Jefe", "what do ya want for nothing?", "5bdcc146bf60754e6a042426089575c75a003f089d2739839dec58b964ec3843"},
		{strings.Repeat("\xaa", 20), strings.Repeat("\xdd", 50), "773ea91e36800e46854db8ebd09181a72959098b3ef8c122d9635514ced565fe"},
		{strings.Repeat("\xaa", 131), "Test Using Larger Than Block-Size Key - Hash Key First", "60e431591ee0b67f0d8a26aacbf5b77f8e0bc6213728c5140546040f0ee37f54"},
		{"", "", "b613679a0814d9ec772f95d778c35fc5ff1697c493715653c6c712144292c5ad"},
	}
	for _, test := range tests {
		if got := hex.EncodeToString([]byte(sum(test.key, test.input))); got != test.sum {
			t.Errorf("Sum(%q, %q): %s, want %s", test.key, test.input, got, test.sum)
		}
	}
}

// P2.1: keys shorter than a block, as long as a block, and longer.
func TestKeyLengths(t *testing.T) {
	for n := range 200 {
		for _, m := range []int{0, 1, 55, 64, 119, 300} {
			key, s := sample(n), sample(m)
			if sum(key, s) != want(key, s) {
				t.Errorf("a key of %d bytes, an input of %d bytes: %x, want %x", n, m, sum(key, s), want(key, s))
			}
		}
	}
}

// P2.1: Sum depends only on the concatenation.
func TestDivision(t *testing.T) {
	s := sample(200)
	for n := range len(s) + 1 {
		for _, l := range [][]string{{s[:n], s[n:]}, {"", s[:n], "", s[n:], ""}, {s[:n/2], s[n/2 : n], s[n:]}} {
			if sum("k", l...) != want("k", s) {
				t.Errorf("%d parts, divided at %d: %x", len(l), n, sum("k", l...))
			}
		}
	}
	for _, l := range [][]string{nil, {}, {""}, {"", ""}} {
		if sum("k", l...) != want("k", "") {
			t.Errorf("%d empty strings: %x", len(l), sum("k", l...))
		}
	}
}

// Rule 5: neither the list nor its spare capacity is modified.
func TestListUnmodified(t *testing.T) {
	whole := []string{"a", "b", "spare", "spare"}
	before := slices.Clone(whole)
	hmac.Sum("k", whole[:2]...)
	if !slices.Equal(whole, before) {
		t.Errorf("the list was modified: %q", whole)
	}
}

// P2.1: Same finds one differing bit anywhere, and a differing length.
func TestSame(t *testing.T) {
	s := sample(70)
	if !hmac.Same("", "") || !hmac.Same(s, strings.Clone(s)) {
		t.Errorf("equal strings are not the same")
	}
	for i := range len(s) {
		for bit := range 8 {
			b := []byte(s)
			b[i] ^= 1 << bit
			if hmac.Same(s, string(b)) || hmac.Same(string(b), s) {
				t.Errorf("a difference in bit %d of byte %d isn't seen", bit, i)
			}
		}
		if hmac.Same(s, s[:i]) || hmac.Same(s[:i], s) {
			t.Errorf("a string is the same as its first %d bytes", i)
		}
	}
	// Two differences that would cancel each other out.
	if hmac.Same("ab", "ba") || hmac.Same("\x00\x00", "\x01\x01") || hmac.Same("a", "a\x00") || hmac.Same("", "\x00") {
		t.Errorf("different strings are the same")
	}
}

// spread derives bytes as the chapter says, by the library's HMAC.
func spread(key, label string, n int) string {
	out, last := "", ""
	for i := 1; len(out) < n; i++ {
		last = want(key, last+label+string([]byte{byte(i)}))
		out += last
	}
	return out[:n]
}

// P2.1: Spread, around the ends of its parts.
func TestSpread(t *testing.T) {
	for _, key := range []string{"", "k", sample(100)} {
		for _, label := range []string{"", "l", sample(80)} {
			for _, n := range []int{0, 1, 31, 32, 33, 64, 65, 1000, 8128, 8129, 8159, 8160} {
				if got, want := hmac.Spread(key, label, n), spread(key, label, n); got != want {
					t.Errorf("Spread(%x, %x, %d) differs: %d bytes", key, label, n, len(got))
				}
			}
		}
	}
}

// P2.1: numbers beyond the range count as its ends.
func TestSpreadRange(t *testing.T) {
	for _, n := range []int{-1, -32, -8160, math.MinInt} {
		if got := hmac.Spread("k", "l", n); got != "" {
			t.Errorf("Spread of %d bytes: %d bytes", n, len(got))
		}
	}
	for _, n := range []int{8161, 8192, 1 << 31, math.MaxInt} {
		if got := hmac.Spread("k", "l", n); got != spread("k", "l", 8160) {
			t.Errorf("Spread of %d bytes: %d bytes", n, len(got))
		}
	}
}

// P2.2: fewer bytes are a prefix of more bytes.
func TestSpreadPrefix(t *testing.T) {
	whole := hmac.Spread("k", "l", 8160)
	for n := -1; n <= 300; n++ {
		if got := hmac.Spread("k", "l", n); len(got) != max(n, 0) || !strings.HasPrefix(whole, got) {
			t.Errorf("Spread of %d bytes is no prefix: %d bytes", n, len(got))
		}
	}
	for n := 300; n <= 8300; n += 37 {
		if got := hmac.Spread("k", "l", n); len(got) != min(n, 8160) || !strings.HasPrefix(whole, got) {
			t.Errorf("Spread of %d bytes is no prefix: %d bytes", n, len(got))
		}
	}
}
