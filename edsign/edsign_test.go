package edsign_test

import (
	"crypto/ed25519"
	"encoding/hex"
	"math/big"
	"math/rand"
	"strings"
	"testing"

	"speakeasy/edsign"
)

func unhex(s string) []byte {
	b, err := hex.DecodeString(s)
	if err != nil {
		panic(err)
	}
	return b
}

func random(source *rand.Rand) [32]byte {
	var b [32]byte
	source.Read(b[:])
	return b
}

func randomText(source *rand.Rand, n int) string {
	b := make([]byte, n)
	source.Read(b)
	return string(b)
}

// flipped returns b with one bit changed.
func flipped(b []byte, bit int) []byte {
	b = append([]byte{}, b...)
	b[bit/8] ^= 1 << (bit % 8)
	return b
}

func filled(x byte) [32]byte { return [32]byte([]byte(strings.Repeat(string([]byte{x}), 32))) }

// seeds returns few seeds, with few or many bits.
func seeds() [][32]byte {
	source := rand.New(rand.NewSource(1))
	l := [][32]byte{{}, {1}, {31: 0x80}, filled(0xff), filled(0x55)}
	for range 5 {
		l = append(l, random(source))
	}
	return l
}

// P8.1: the keys and signatures that RFC 8032 gives (section 7.1).
func TestExamples(t *testing.T) {
	tests := []struct{ seed, key, m, sig string }{
		{"9d61b19deffd5a60ba844af492ec2cc44449c5697b326919703bac031cae7f60", "d75a980182b10ab7d54bfed3c964073a0ee172f3daa62325af021a68f707511a", "",
			"e5564300c360ac729086e2cc806e828a84877f1eb8e5d974d873e065224901555fb8821590a33bacc61e39701cf9b46bd25bf5f0595bbe24655141438e7a100b"},
		{"4ccd089b28ff96da9db6c346ec114e0f5b8a319f35aba624da8cf6ed4fb8a6fb", "3d4017c3e843895a92b70aa74d1b7ebc9c982ccf2ec4968cc0cd55f12af4660c", "72",
			"92a009a9f0d4cab8720e820b5f642540a2b27b5416503f8fb3762223ebdb69da085ac1e43e15996e458f3613d0f11d8c387b2eaeb4302aeeb00d291612bb0c00"},
		{"c5aa8df43f9f837bedb7442f31dcb7b166d38535076f094b85ce3a2e0b4458f7", "fc51cd8e6218a1a38da47ed00230f0580816ed13ba3303ac5deb911548908025", "af82",
			"6291d657deec24024827e69c3abe01a30ce548a284743a445e3680d7db5ac3ac18ff9b538d16f290ae67f760984dc6594a7c15e9716ed28dc027beceea1ec40a"},
		{"833fe62409237b9d62ec77587520911e9a759cec1d19755b7da901b96dca3d42", "ec172b93ad5e563bf4932c70e1245034c35467ef2efd4d64ebf819683467e2bf",
			"ddaf35a193617abacc417349ae20413112e6fa4e89a97ea20a9eeee64b55d39a2192992a274fc1a836ba3c23a3feebbd454d4423643ce80e2a9ac94fa54ca49f",
			"dc2a4459e7369633a52b1bf277839a00201009a3efbf3ecb69bea2186c26b58909351fc9ac90b3ecfdfbc7c66431e0303dca179c138ac17ad9bef1177331a704"},
	}
	for i, test := range tests {
		seed, want, m := [32]byte(unhex(test.seed)), [64]byte(unhex(test.sig)), string(unhex(test.m))
		key := edsign.Key(seed)
		if key != [32]byte(unhex(test.key)) {
			t.Errorf("%d: Key: %x, want %s", i, key, test.key)
		}
		if got := edsign.Sign(seed, m); got != want {
			t.Errorf("%d: Sign: %x, want %x", i, got, want)
		}
		if !edsign.Verify(key, m, want) || !edsign.Point(key) {
			t.Errorf("%d: Verify and Point say: %v, %v", i, edsign.Verify(key, m, want), edsign.Point(key))
		}
	}
}

// checkSign compares with the library's signatures.
func checkSign(t *testing.T, seed [32]byte, m string) {
	t.Helper()
	private := ed25519.NewKeyFromSeed(seed[:])
	key, sig := edsign.Key(seed), edsign.Sign(seed, m)
	if want := private.Public().(ed25519.PublicKey); string(key[:]) != string(want) {
		t.Errorf("Key of %x: %x, want %x", seed, key, want)
	}
	if want := ed25519.Sign(private, []byte(m)); string(sig[:]) != string(want) {
		t.Errorf("Sign by %x of %x: %x, want %x", seed, m, sig, want)
	}
	if !edsign.Verify(key, m, sig) || !edsign.Point(key) {
		t.Errorf("Sign by %x of %x: the signature %x or the key %x isn't valid", seed, m, sig, key)
	}
}

// P8.1, P8.2: keys and signatures of all seeds and messages of all lengths, and
// Verify accepts them.
func TestSign(t *testing.T) {
	source := rand.New(rand.NewSource(2))
	for _, seed := range seeds() {
		for _, m := range []string{"", "\x00", "message", strings.Repeat("\xff", 64), "\x80\xff\x00"} {
			checkSign(t, seed, m)
		}
	}
	for n := range 300 {
		checkSign(t, random(source), randomText(source, n))
	}
	checkSign(t, random(source), randomText(source, 100000))
}

// P8.1: Sign depends on all bits of the seed and of the message.
func TestSignBits(t *testing.T) {
	source := rand.New(rand.NewSource(3))
	seed, m := random(source), randomText(source, 20)
	for bit := range 256 {
		checkSign(t, [32]byte(flipped(seed[:], bit)), m)
	}
	for bit := range 8 * len(m) {
		checkSign(t, seed, string(flipped([]byte(m), bit)))
	}
}

// P8.1: a signature with one other bit isn't valid, nor is one for another key or another message.
func TestVerifyBits(t *testing.T) {
	source := rand.New(rand.NewSource(4))
	seed, m := random(source), "a message"
	key, sig := edsign.Key(seed), edsign.Sign(seed, m)
	for bit := range 512 {
		if edsign.Verify(key, m, [64]byte(flipped(sig[:], bit))) {
			t.Errorf("another bit %d of the signature: valid", bit)
		}
	}
	for bit := range 256 {
		if edsign.Verify([32]byte(flipped(key[:], bit)), m, sig) {
			t.Errorf("another bit %d of the key: valid", bit)
		}
	}
	for bit := range 8 * len(m) {
		if edsign.Verify(key, string(flipped([]byte(m), bit)), sig) {
			t.Errorf("another bit %d of the message: valid", bit)
		}
	}
	for _, other := range []string{"", m[1:], m[:len(m)-1], m + "\x00", "\x00" + m, m + m} {
		if edsign.Verify(key, other, sig) {
			t.Errorf("the message %x: valid", other)
		}
	}
	if edsign.Verify(key, m, [64]byte{}) || edsign.Verify([32]byte{}, m, sig) || edsign.Verify(edsign.Key(random(source)), m, sig) {
		t.Errorf("zero or another key: valid")
	}
}

// P8.1: a signature whose number is L or more isn't valid, also if the equation holds.
func TestVerifyGreat(t *testing.T) {
	for _, seed := range seeds() {
		key, sig := edsign.Key(seed), edsign.Sign(seed, "m")
		for n := range int64(16) {
			s := new(big.Int).Add(little(sig[32:]), new(big.Int).Mul(order(), number(n)))
			if s.Cmp(power(256)) >= 0 {
				continue
			}
			if edsign.Verify(key, "m", signature([32]byte(sig[:32]), s)) != (n == 0) {
				t.Errorf("the number of the signature plus %d times L: %v", n, n != 0)
			}
		}
	}
	// The neutral element as a key makes every number of a signature valid whose point is the first part.
	one := neutral().encoded()
	for _, test := range []struct {
		s    *big.Int
		want bool
	}{{number(0), true}, {order(), false}, {new(big.Int).Lsh(order(), 1), false}, {new(big.Int).Mul(order(), number(15)), false}} {
		if got := edsign.Verify(one, "m", signature(one, test.s)); got != test.want {
			t.Errorf("the number %x: %v", test.s, got)
		}
	}
	less := new(big.Int).Sub(order(), number(1))
	if !edsign.Verify(one, "m", signature(base().negative().encoded(), less)) {
		t.Errorf("the number L - 1: not valid")
	}
}

// P8.1: Verify computes as specified for keys that have a part of small order:
// no signature is accepted that only a multiple of the equation accepts.
func TestVerifySmallOrder(t *testing.T) {
	source := rand.New(rand.NewSource(5))
	outcomes := map[bool]int{}
	check := func(key [32]byte, m string, sig [64]byte) {
		t.Helper()
		want := verify(key, m, sig)
		outcomes[want]++
		if got := edsign.Verify(key, m, sig); got != want {
			t.Errorf("key %x, message %x, signature %x: %v", key, m, sig, got)
		}
	}
	small := torsion()
	for i, p := range small {
		for _, q := range small {
			check(p.encoded(), randomText(source, 3), signature(q.encoded(), number(0)))
		}
		a, r := new(big.Int).Rand(source, order()), new(big.Int).Rand(source, order())
		key := base().times(a).plus(p).encoded()
		for _, q := range []point{neutral(), small[1], small[4], small[(8-i)%8]} {
			first, m := base().times(r).plus(q).encoded(), randomText(source, 5)
			s := new(big.Int).Mul(a, challenge(first, key, m))
			s.Mod(s.Add(s, r), order())
			check(key, m, signature(first, s))
		}
	}
	if outcomes[true] < 10 || outcomes[false] < 10 {
		t.Errorf("%v", outcomes)
	}
}

// P8.1: the first part of a signature is compared as bytes: another encoding of
// the same point isn't valid.
func TestVerifyBytes(t *testing.T) {
	one := neutral().encoded()
	minus1 := point{number(0), difference(number(0), number(1))}.encoded()
	for _, first := range []*big.Int{number(1), new(big.Int).Add(prime(), number(1)), new(big.Int).SetBit(number(1), 255, 1)} {
		if got := edsign.Verify(one, "m", signature(array(first), number(0))); got != (first.Cmp(number(1)) == 0) {
			t.Errorf("the point %x: %v", first, got)
		}
	}
	for n := range 20 {
		m := strings.Repeat("m", n)
		odd := flipped(minus1[:], 255)
		if edsign.Verify(minus1, m, signature([32]byte(odd), number(0))) || edsign.Verify(one, m, signature([32]byte(odd), number(0))) {
			t.Errorf("the point (0, -1) with the highest bit: valid")
		}
	}
}

func checkPoint(t *testing.T, key [32]byte) {
	t.Helper()
	_, want := decoded(key)
	if got := edsign.Point(key); got != want {
		t.Errorf("Point of %x: %v", key, got)
	}
}

// P8.1: Point knows encodings, of which the highest bit tells x.
func TestPoint(t *testing.T) {
	source := rand.New(rand.NewSource(6))
	for n := range int64(300) {
		for _, y := range []*big.Int{number(n), difference(number(0), number(n))} {
			checkPoint(t, array(y))
			checkPoint(t, array(new(big.Int).SetBit(y, 255, 1)))
		}
	}
	for range 500 {
		checkPoint(t, random(source))
	}
	for _, seed := range seeds() {
		key := edsign.Key(seed)
		if !edsign.Point(key) || !edsign.Point([32]byte(flipped(key[:], 255))) {
			t.Errorf("%x: the key or its negative isn't a point", seed)
		}
	}
	for _, p := range torsion() {
		if !edsign.Point(p.encoded()) {
			t.Errorf("%x isn't a point", p.encoded())
		}
	}
}

// P8.1: bytes whose y isn't reduced, and those whose highest bit makes no sense
// because x is 0, are the encoding of no point, and make no key.
func TestPointOther(t *testing.T) {
	for n := range int64(19) {
		y := new(big.Int).Add(prime(), number(n))
		for range 2 {
			if edsign.Point(array(y)) {
				t.Errorf("Point of %x: true", y)
			}
			y.SetBit(y, 255, 1)
		}
	}
	one, minus1 := number(1), difference(number(0), number(1))
	for _, y := range []*big.Int{one, minus1} {
		if !edsign.Point(array(y)) || edsign.Point(array(new(big.Int).SetBit(y, 255, 1))) {
			t.Errorf("Point of %x, without and with the highest bit", y)
		}
	}
	for _, key := range []*big.Int{new(big.Int).Add(prime(), one), new(big.Int).SetBit(one, 255, 1)} {
		if edsign.Verify(array(key), "m", signature(neutral().encoded(), number(0))) {
			t.Errorf("the key %x, which isn't the neutral element's encoding: valid", key)
		}
	}
}

// P8.1: under a key that is no point no signature is valid, also none whose
// point is one of few that a failed decoding might lead to.
func TestVerifyNoPoint(t *testing.T) {
	source := rand.New(rand.NewSource(8))
	keys := []*big.Int{number(2), prime(), new(big.Int).Add(prime(), number(1)), new(big.Int).SetBit(number(1), 255, 1)}
	for range 20 {
		b := random(source)
		keys = append(keys, little(b[:]))
	}
	firsts := [][32]byte{{}, {1}, filled(0xff), base().encoded(), base().negative().encoded()}
	for _, p := range torsion() {
		firsts = append(firsts, p.encoded())
	}
	for _, key := range keys {
		if edsign.Point(array(key)) {
			continue
		}
		for _, first := range firsts {
			for _, s := range []*big.Int{number(0), number(1), new(big.Int).Rand(source, order())} {
				if edsign.Verify(array(key), "m", signature(first, s)) {
					t.Errorf("key %x, signature %x and %x: valid", key, first, s)
				}
			}
		}
	}
}

// P8.1: random bytes are no signature.
func TestVerifyRandom(t *testing.T) {
	source := rand.New(rand.NewSource(7))
	for range 300 {
		first, last := random(source), random(source)
		if edsign.Verify(random(source), "m", signature(first, little(last[:]))) {
			t.Errorf("random bytes: valid")
		}
	}
}
