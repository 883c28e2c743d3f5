package poly_test

import (
	"crypto/sha256"
	"encoding/hex"
	"math/big"
	"math/rand"
	"slices"
	"strings"
	"testing"

	"speakeasy/api"
	"speakeasy/chacha"
	"speakeasy/poly"
)

var (
	nonce = [12]byte{0, 1, 2, 3, 4, 5, 6, 7, 8, 9, 10, 11}
	poem  = "'Twas brillig, and the slithy toves\nDid gyre and gimble in the wabe:\nAll mimsy were the borogoves,\nAnd the mome raths outgrabe."
	ietf  = `Any submission to the IETF intended by the Contributor for publication as all or part of an IETF Internet-Draft or RFC and any statement made within the context of an IETF activity is considered an "IETF Contribution". Such statements include oral statements in IETF sessions, as well as written and electronic communications made at any time or place, which are addressed to`
)

// keyFrom returns the key whose first bytes are those of s.
func keyFrom(s string) [32]byte {
	var key [32]byte
	copy(key[:], s)
	return key
}

// from returns the key of n, n + 1, and so on.
func from(n int) [32]byte {
	var key [32]byte
	for i := range key {
		key[i] = byte(n + i)
	}
	return key
}

func unhex(s string) string {
	b, err := hex.DecodeString(s)
	if err != nil {
		panic(err)
	}
	return string(b)
}

// sample returns n bytes, among them zero bytes and bytes that are no UTF-8.
func sample(n int) string {
	b := make([]byte, n)
	for i := range b {
		b[i] = byte(i*i*3 + i*11 + 77)
	}
	return string(b)
}

// little returns the little-endian number in s.
func little(s string) *big.Int {
	b := []byte(s)
	slices.Reverse(b)
	return new(big.Int).SetBytes(b)
}

// bytesOf returns x, which is less than 2^128, as 16 bytes, little-endian.
func bytesOf(x *big.Int) string {
	b := x.FillBytes(make([]byte, 16))
	slices.Reverse(b)
	return string(b)
}

func power(n uint) *big.Int { return new(big.Int).Lsh(big.NewInt(1), n) }

// prime returns 2^130 - 5.
func prime() *big.Int { return new(big.Int).Sub(power(130), big.NewInt(5)) }

// multiplier returns the number r of a key.
func multiplier(key [32]byte) *big.Int {
	half := []byte(string(key[:16]))
	for _, i := range []int{3, 7, 11, 15} {
		half[i] &= 0b00001111
	}
	for _, i := range []int{4, 8, 12} {
		half[i] &= 0b11111100
	}
	return little(string(half))
}

// sum computes the tag as the chapter says, by the library's numbers.
func sum(key [32]byte, s string) string {
	r, a := multiplier(key), new(big.Int)
	for len(s) > 0 {
		n := min(len(s), 16)
		a.Add(a, little(s[:n]+"\x01"))
		a.Mul(a, r)
		a.Mod(a, prime())
		s = s[n:]
	}
	a.Add(a, little(string(key[16:])))
	return bytesOf(a.Mod(a, power(128)))
}

func checkSum(t *testing.T, key [32]byte, s string) {
	t.Helper()
	if got, want := poly.Sum(key, s), sum(key, s); string(got[:]) != want {
		t.Errorf("key %x, input %x: %x, want %x", key, s, got, want)
	}
}

// P4.1: the tags of RFC 8439 (section 2.5.2 and appendix A.3, where the last
// ones need the number 2^130 - 5 exactly).
func TestSumExamples(t *testing.T) {
	zeros, ones := strings.Repeat("\x00", 16), strings.Repeat("\xff", 16)
	half := unhex("36e5f6b5c5e06070f0efca96227a863e")
	tests := []struct{ key, input, want string }{
		{unhex("85d6be7857556d337f4452fe42d506a80103808afb0db2fd4abff6af4149f51b"), "Cryptographic Forum Research Group", "a8061dc1305136c6c22b8baf0c0127a9"},
		{"", strings.Repeat("\x00", 64), "00000000000000000000000000000000"},
		{zeros + half, ietf, "36e5f6b5c5e06070f0efca96227a863e"},
		{half, ietf, "f3477e7cd95417af89a6b8794c310cf0"},
		{unhex("1c9240a5eb55d38af333888604f6b5f0473917c1402b80099dca5cbc207075c0"), poem, "4541669a7eaaee61e708dc7cbcc5eb62"},
		{"\x02", ones, "03000000000000000000000000000000"},
		{"\x02" + zeros[1:] + ones, "\x02" + zeros[1:], "03000000000000000000000000000000"},
		{"\x01", ones + "\xf0" + ones[1:] + "\x11" + zeros[1:], "05000000000000000000000000000000"},
		{"\x01", ones + "\xfb" + strings.Repeat("\xfe", 15) + strings.Repeat("\x01", 16), "00000000000000000000000000000000"},
		{"\x02", "\xfd" + ones[1:], "faffffffffffffffffffffffffffffff"},
	}
	for i, test := range tests {
		got := poly.Sum(keyFrom(test.key), test.input)
		if hex.EncodeToString(got[:]) != test.want {
			t.Errorf("%d: %x, want %s", i, got, test.want)
		}
	}
}

// P4.1: inputs of every length around the ends of the chunks, with small, great
// and ordinary keys. No chunk at all leaves k alone.
func TestSumLengths(t *testing.T) {
	ones := strings.Repeat("\xff", 200)
	for _, key := range []string{"", "\x01", "\x02", "\x05", ones[:16], ones, strings.Repeat("\x00", 16) + ones[:16], sample(32)} {
		for n := range 100 {
			for _, s := range []string{sample(n), ones[:n], strings.Repeat("\x00", n)} {
				checkSum(t, keyFrom(key), s)
			}
		}
		if got := poly.Sum(keyFrom(key), ""); got != [16]byte([]byte(key + strings.Repeat("\x00", 32))[16:32]) {
			t.Errorf("key %x, no input: %x", key, got)
		}
	}
}

// P4.1: numbers around multiples of 2^130 - 5, where the last reduction matters.
func TestSumReduction(t *testing.T) {
	most := new(big.Int).Sub(power(128), big.NewInt(1))
	three := strings.Repeat("\xff", 48)
	for d := range int64(20) {
		near := bytesOf(new(big.Int).Sub(most, big.NewInt(d)))
		small := bytesOf(big.NewInt(d))
		for _, s := range []string{near, near + small + small, small + near + small, near + near + near, near + three, three + near, three + small} {
			for _, key := range []string{"\x01", "\x02", "\x04", "\x05", "\x01" + strings.Repeat("\x00", 15) + strings.Repeat("\xff", 16)} {
				checkSum(t, keyFrom(key), s)
			}
		}
	}
}

// P4.1: products that lie around a power of two or around a multiple of
// 2^130 - 5, where a carry may get lost. For a product v the chunk, with its
// byte 1, is v divided by r.
func TestSumProducts(t *testing.T) {
	source := rand.New(rand.NewSource(5))
	for _, n := range []uint{0, 26, 27, 28, 32, 51, 52, 64, 78, 104, 128, 129, 130} {
		for d := range int64(21) {
			v := new(big.Int).Mod(new(big.Int).Add(power(n), big.NewInt(d-10)), prime())
			for found, tries := 0, 0; found < 5 && tries < 1000; tries++ {
				var key [32]byte
				source.Read(key[:])
				x := new(big.Int).ModInverse(multiplier(key), prime())
				x.Mod(x.Mul(x, v), prime())
				if x.BitLen() == 129 {
					found++
					checkSum(t, key, bytesOf(x.Sub(x, power(128))))
				}
			}
		}
	}
}

// P4.1: every bit of a key counts, but for those that are set to 0.
func TestSumKeyBits(t *testing.T) {
	for bit := range 256 {
		key := from(3)
		key[bit/8] ^= 1 << (bit % 8)
		checkSum(t, key, sample(70))
		key = [32]byte{}
		key[bit/8] = 1 << (bit % 8)
		checkSum(t, key, sample(70))
	}
}

// P4.1: arbitrary keys and inputs (the same ones in every run).
func TestSumMany(t *testing.T) {
	source := rand.New(rand.NewSource(4))
	for range 3000 {
		var key [32]byte
		source.Read(key[:])
		s := make([]byte, source.Intn(300))
		source.Read(s)
		checkSum(t, key, string(s))
	}
}

// P4.1: the AEAD example of RFC 8439 (section 2.8.2), empty texts and empty
// extras, and lengths of more than one byte.
func TestSealExamples(t *testing.T) {
	sunscreen := "Ladies and Gentlemen of the class of '99: If I could offer you only one tip for the future, sunscreen would be it."
	tests := []struct {
		key                [32]byte
		nonce              string
		text, extra, wants string
	}{
		{from(0x80), unhex("070000004041424344454647"), sunscreen, unhex("50515253c0c1c2c3c4c5c6c7"),
			"d31a8d34648e60db7b86afbc53ef7ec2a4aded51296e08fea9e2b5a736ee62d63dbea45e8ca9671282fafb69da92728b1a71de0a9e060b2905d6a5b67ecd3b3692ddbd7f2d778b8c9803aee328091b58fab324e4fad675945585808b4831d7bc3ff4def08e4b7a9de576d26586cec64b61161ae10b594f09e26a7e902ecbd0600691"},
		{from(0), string(nonce[:]), "", "", "295a498b8841a1c5f55d4d606f731159"},
		{from(0), string(nonce[:]), strings.Repeat("x", 17), "", "f1837078516fdd38cffb478be065761bb152459779176aeb2cf448d69f00a88179"},
		{from(0), string(nonce[:]), "", strings.Repeat("y", 17), "4c41e72fcce24d8916b7666ec8f78e55"},
	}
	for i, test := range tests {
		if got := hex.EncodeToString([]byte(poly.Seal(test.key, [12]byte([]byte(test.nonce)), test.text, test.extra))); got != test.wants {
			t.Errorf("%d: %s, want %s", i, got, test.wants)
		}
	}
	long := sha256.Sum256([]byte(poly.Seal(from(0), nonce, sample(70000), sample(66051))))
	if got := hex.EncodeToString(long[:]); got != "273c444cfcf37fe0eaa4ff295876964ab7a6f2573af60e6899865f7b10d83f10" {
		t.Errorf("the hash of a long text, sealed: %s", got)
	}
}

// eachLength calls check with texts and extras of lengths around the ends of chunks and blocks.
func eachLength(check func(text, extra string)) {
	for _, n := range []int{0, 1, 2, 15, 16, 17, 31, 32, 33, 63, 64, 65, 255, 256, 300} {
		for _, m := range []int{0, 1, 15, 16, 17, 32, 255, 256, 257} {
			check(sample(n), sample(m + 1)[1:])
		}
	}
}

// P4.1: what Seal returns is put together as the chapter says.
func TestSealParts(t *testing.T) {
	key := from(9)
	block := chacha.Block(key, 0, nonce)
	pad := func(s string) string { return s + strings.Repeat("\x00", (len(s)+15)/16*16-len(s)) }
	count := func(s string) string {
		return string([]byte{byte(len(s)), byte(len(s) >> 8), 0, 0, 0, 0, 0, 0})
	}
	eachLength(func(text, extra string) {
		cipher := chacha.Xor(key, 1, nonce, text)
		want := cipher + sum([32]byte(block[:32]), pad(extra)+pad(cipher)+count(extra)+count(text))
		if got := poly.Seal(key, nonce, text, extra); got != want {
			t.Errorf("%d and %d bytes: %x, want %x", len(text), len(extra), got, want)
		}
	})
}

// P4.2: Open returns the text that was sealed.
func TestOpen(t *testing.T) {
	for _, key := range [][32]byte{{}, from(1), keyFrom(strings.Repeat("\xff", 32))} {
		eachLength(func(text, extra string) {
			if got, err := poly.Open(key, nonce, poly.Seal(key, nonce, text, extra), extra); got != text || err != nil {
				t.Errorf("%d and %d bytes: %x, %v, want %x", len(text), len(extra), got, err, text)
			}
		})
	}
	text, extra := sample(70000), sample(66051)
	if got, err := poly.Open(from(0), nonce, poly.Seal(from(0), nonce, text, extra), extra); got != text || err != nil {
		t.Errorf("a long text: %d bytes, %v", len(got), err)
	}
}

// P4.1: fewer bytes than a tag are ErrEnd, whatever they are.
func TestOpenShort(t *testing.T) {
	sealed := poly.Seal(from(1), nonce, "", "extra")
	for n := range 16 {
		for _, s := range []string{sealed[:n], sealed[16-n:], strings.Repeat("\x00", n)} {
			if got, err := poly.Open(from(1), nonce, s, "extra"); got != "" || err != api.ErrEnd {
				t.Errorf("%x: %q, %v", s, got, err)
			}
		}
	}
}

func wantMac(t *testing.T, what string, key [32]byte, nonce [12]byte, s, extra string) {
	t.Helper()
	if got, err := poly.Open(key, nonce, s, extra); got != "" || err != api.ErrMac {
		t.Errorf("%s: %q, %v", what, got, err)
	}
}

// flipped returns s with one bit changed.
func flipped(s string, bit int) string {
	b := []byte(s)
	b[bit/8] ^= 1 << (bit % 8)
	return string(b)
}

// P4.1: one changed bit anywhere is ErrMac, and no text is returned.
func TestOpenChanged(t *testing.T) {
	key := from(1)
	text, extra := sample(70), sample(20)
	s := poly.Seal(key, nonce, text, extra)
	for bit := range 8 * len(s) {
		wantMac(t, "a bit of the sealed text", key, nonce, flipped(s, bit), extra)
	}
	for bit := range 8 * len(extra) {
		wantMac(t, "a bit of extra", key, nonce, s, flipped(extra, bit))
	}
	for bit := range 8 * len(key) {
		wantMac(t, "a bit of the key", keyFrom(flipped(string(key[:]), bit)), nonce, s, extra)
	}
	for bit := range 8 * len(nonce) {
		wantMac(t, "a bit of the nonce", key, [12]byte([]byte(flipped(string(nonce[:]), bit))), s, extra)
	}
}

// P4.1: bytes that are added, left out or moved are ErrMac.
func TestOpenMoved(t *testing.T) {
	key := from(1)
	text, extra := sample(70), sample(20)
	s := poly.Seal(key, nonce, text, extra)
	cipher, tag := s[:70], s[70:]
	for n := 16; n < len(s); n++ {
		wantMac(t, "a beginning", key, nonce, s[:n], extra)
		wantMac(t, "an end", key, nonce, s[len(s)-n:], extra)
	}
	for n := range extra {
		wantMac(t, "a beginning of extra", key, nonce, s, extra[:n])
	}
	wantMac(t, "a byte behind", key, nonce, s+"\x00", extra)
	wantMac(t, "a zero byte behind the ciphertext", key, nonce, cipher+"\x00"+tag, extra)
	wantMac(t, "a zero byte behind extra", key, nonce, s, extra+"\x00")
	wantMac(t, "zero bytes to the end of extra's chunk", key, nonce, s, extra+strings.Repeat("\x00", 12))
	wantMac(t, "the tag first", key, nonce, tag+cipher, extra)
	wantMac(t, "no ciphertext", key, nonce, tag, extra)
	wantMac(t, "zero bytes", key, nonce, strings.Repeat("\x00", 16), "")
	// A whole chunk moves from extra to the ciphertext, so that only the lengths differ.
	whole := poly.Seal(key, nonce, "", sample(32))
	wantMac(t, "extra as ciphertext", key, nonce, sample(32)+whole, "")
	wantMac(t, "half of extra as ciphertext", key, nonce, sample(32)[16:]+whole, sample(16))
}
