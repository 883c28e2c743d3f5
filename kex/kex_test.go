package kex_test

import (
	"crypto/ecdh"
	"crypto/sha256"
	"encoding/binary"
	"encoding/hex"
	"fmt"
	"math"
	"math/big"
	"math/rand"
	"strings"
	"testing"

	"speakeasy/api"
	"speakeasy/curve"
	"speakeasy/hello"
	"speakeasy/kex"
	"speakeasy/message"
	"speakeasy/offer"
)

const most = 8160

func unhex(s string) [32]byte {
	b, err := hex.DecodeString(s)
	if err != nil {
		panic(err)
	}
	return [32]byte(b)
}

func random(source *rand.Rand) [32]byte {
	var b [32]byte
	source.Read(b[:])
	return b
}

func randomText(source *rand.Rand, n int) string {
	b := make([]byte, n)
	source.Read(b)
	return string(b)
}

// filled returns 32 bytes x.
func filled(x byte) [32]byte { return [32]byte([]byte(strings.Repeat(string([]byte{x}), 32))) }

// secrets returns numbers with zero bytes in front, and with each first bit.
func secrets() [][32]byte {
	l := [][32]byte{{}, {0x7f}, {0x80}, {0x01}, {0xff}, filled(0xff), filled(0x7f), filled(0x80), filled(1)}
	for i := range 32 {
		one, high, both := [32]byte{}, [32]byte{}, filled(0x80)
		one[i], high[i] = 1, 0x80
		for j := range i {
			both[j] = 0
		}
		l = append(l, one, high, both)
	}
	return l
}

func text(s string) string {
	return string(binary.BigEndian.AppendUint32(nil, uint32(len(s)))) + s
}

// number returns a secret as RFC 4251 encodes an mpint.
func number(secret [32]byte) string {
	n := new(big.Int).SetBytes(secret[:])
	b := make([]byte, (n.BitLen()+8)/8) // one bit more, for the sign
	if n.Sign() == 0 {
		return text("")
	}
	return text(string(n.FillBytes(b)))
}

// checkShare checks the result for a scalar and a point by the one that the library computes.
func checkShare(t *testing.T, draw, point [32]byte) {
	t.Helper()
	private, err := ecdh.X25519().NewPrivateKey(draw[:])
	if err != nil {
		t.Fatal(err)
	}
	public, err := ecdh.X25519().NewPublicKey(point[:])
	if err != nil {
		t.Fatal(err)
	}
	got, fault := kex.Share(draw, point)
	if want, err := private.ECDH(public); err == nil {
		if got != [32]byte(want) || fault != nil {
			t.Errorf("%x and %x: %x, %v, want %x", draw, point, got, fault, want)
		}
		return
	}
	f, ok := fault.(*api.Fault)
	if got != [32]byte{} || !ok || f.Where != "kex" || f.Err != api.ErrKey {
		t.Errorf("%x and %x: %x, %v", draw, point, got, fault)
	}
}

// P14.1: arbitrary bytes, edge cases, and points that give 0.
func TestShare(t *testing.T) {
	source := rand.New(rand.NewSource(1))
	points := [][32]byte{
		{}, {1}, {2}, {9}, {31: 0x80}, {1, 31: 0x80}, filled(0xff), filled(0x7f),
		unhex("ecffffffffffffffffffffffffffffffffffffffffffffffffffffffffffff7f"),
		unhex("edffffffffffffffffffffffffffffffffffffffffffffffffffffffffffff7f"),
		unhex("eeffffffffffffffffffffffffffffffffffffffffffffffffffffffffffff7f"),
		unhex("eeffffffffffffffffffffffffffffffffffffffffffffffffffffffffffffff"),
		unhex("e0eb7a7c3b41b8ae1656e3faf19fc46ada098deb9c32b1fd866205165f49b800"),
		unhex("5f9c95bca3508c24b1d0b1559c83ef5b04445cc4581c8e86d8224eddd09f1157"),
	}
	for range 100 {
		points = append(points, random(source))
	}
	for _, point := range points {
		for _, draw := range [][32]byte{{}, filled(0xff), random(source)} {
			checkShare(t, draw, point)
		}
	}
}

// P14.1: the secret that RFC 7748 gives (section 6.1).
func TestShareExample(t *testing.T) {
	draw := unhex("5dab087e624a8a4b79e17f8b83800ee66f3bb1292618b6fd1c2f8b27ff88e0eb")
	point := unhex("8520f0098930a754748b7ddcb43ef75a0dbf3a0d26381af4eba4a98eaa9b4e6a")
	got, err := kex.Share(draw, point)
	if got != unhex("4a5d9d5ba4ce2de1728e3bf480350f25e07e21c947d19e3376f09b3c1e161742") || err != nil {
		t.Errorf("%x, %v", got, err)
	}
}

// hashed returns the bytes that the document says Hash hashes.
func hashed(x kex.Exchange) string {
	return text(x.Lines[0]) + text(x.Lines[1]) + text(x.Inits[0]) + text(x.Inits[1]) + text(x.Host) +
		"\x00\x00\x00\x20" + string(x.Points[0][:]) + "\x00\x00\x00\x20" + string(x.Points[1][:]) + number(x.Secret)
}

func checkHash(t *testing.T, x kex.Exchange) {
	t.Helper()
	before := x
	if got, want := x.Hash(), sha256.Sum256([]byte(hashed(x))); got != want {
		t.Errorf("%.99q: %x, want %x", hashed(x), got, want)
	}
	if x != before {
		t.Errorf("the exchange became %v", x)
	}
}

// exchange returns an exchange with fields of up to n bytes.
func exchange(source *rand.Rand, n int) kex.Exchange {
	piece := func() string { return randomText(source, source.Intn(n+1)) }
	return kex.Exchange{
		Lines:  [2]string{piece(), piece()},
		Inits:  [2]string{piece(), piece()},
		Host:   piece(),
		Points: [2][32]byte{random(source), random(source)},
		Secret: random(source),
	}
}

// P14.1: the zero exchange, arbitrary ones, and long fields.
func TestHash(t *testing.T) {
	source := rand.New(rand.NewSource(2))
	checkHash(t, kex.Exchange{})
	for range 500 {
		checkHash(t, exchange(source, source.Intn(100)))
	}
	for range 5 {
		checkHash(t, exchange(source, 1<<17))
	}
	for _, secret := range secrets() {
		x := exchange(source, 20)
		x.Secret = secret
		checkHash(t, x)
		checkHash(t, kex.Exchange{Secret: secret})
	}
}

// P14.1: what a client and a server send first.
func TestHashOfEnds(t *testing.T) {
	init := offer.Make([16]byte{7}, offer.Ours(), false).Bytes()
	x := kex.Exchange{
		Lines:  [2]string{"SSH-2.0-client", "SSH-2.0-server comment"},
		Inits:  [2]string{init, offer.Make([16]byte{8}, offer.Ours(), true).Bytes()},
		Host:   message.KeyBlob([32]byte{9}),
		Points: [2][32]byte{curve.Base([32]byte{1}), curve.Base([32]byte{2})},
	}
	x.Secret, _ = kex.Share([32]byte{1}, x.Points[1])
	checkHash(t, x)
	line, _ := hello.Line("client")
	h := hello.New(false)
	h.Feed(line)
	y := x
	y.Lines[0] = h.Peer()
	if x.Hash() != y.Hash() {
		t.Errorf("the line of Peer is %q", h.Peer())
	}
}

// P14.2: exchanges that differ have different hashes, also if only the borders of their fields differ.
func TestHashDetermines(t *testing.T) {
	source := rand.New(rand.NewSource(3))
	base := kex.Exchange{Lines: [2]string{"ab", "cd"}, Inits: [2]string{"ef", "gh"}, Host: "ij", Points: [2][32]byte{{1}, {2}}, Secret: [32]byte{3}}
	all := map[kex.Exchange]bool{
		{}:                                 true,
		{Lines: [2]string{"ab", ""}}:       true,
		{Lines: [2]string{"a", "b"}}:       true,
		{Lines: [2]string{"", "ab"}}:       true,
		{Inits: [2]string{"ab", ""}}:       true,
		{Inits: [2]string{"", "ab"}}:       true,
		{Host: "ab"}:                       true,
		{Host: "\x00\x00\x00\x00"}:         true,
		{Points: [2][32]byte{{1}, {}}}:     true,
		{Points: [2][32]byte{{}, {1}}}:     true,
		{Points: [2][32]byte{{}, {31: 1}}}: true,
		base:                               true,
	}
	for _, secret := range secrets() {
		all[kex.Exchange{Secret: secret}] = true
	}
	for bit := range 256 {
		for field := range 3 {
			x := base
			to := [3]*[32]byte{&x.Points[0], &x.Points[1], &x.Secret}[field]
			to[bit/8] ^= 1 << (bit % 8)
			all[x] = true
		}
	}
	for field := range 5 {
		for _, other := range []string{"", "a", "abc", "xy", "cd", "ef", "gh", "ij", "\x00", text("ab")} {
			x := base
			*[5]*string{&x.Lines[0], &x.Lines[1], &x.Inits[0], &x.Inits[1], &x.Host}[field] = other
			all[x] = true
		}
	}
	for range 200 {
		all[exchange(source, 2)] = true
	}
	seen := map[[32]byte]kex.Exchange{}
	for x := range all {
		hash := x.Hash()
		if y, is := seen[hash]; is {
			t.Errorf("%q and %q have one hash", hashed(x), hashed(y))
		}
		seen[hash] = x
	}
}

// derived returns n bytes of key material as the document says.
func derived(secret, hash, id [32]byte, letter byte, n int) string {
	head := number(secret) + string(hash[:])
	parts := ""
	for tail := string([]byte{letter}) + string(id[:]); len(parts) < n; tail = parts {
		sum := sha256.Sum256([]byte(head + tail))
		parts += string(sum[:])
	}
	return parts[:n]
}

func checkDerive(t *testing.T, secret, hash, id [32]byte, letter byte, n, size int) {
	t.Helper()
	want := derived(secret, hash, id, letter, size)
	if got := kex.Derive(secret, hash, id, letter, n); got != want {
		t.Errorf("letter %q, %d bytes of %x: %d bytes %.70x, want %.70x", letter, n, secret, len(got), got, want)
	}
}

// P14.1: every size up to some, and those around the smallest and the largest one.
func TestDeriveSizes(t *testing.T) {
	source := rand.New(rand.NewSource(4))
	secret, hash, id := random(source), random(source), random(source)
	for n := range 200 {
		checkDerive(t, secret, hash, id, 'A', n, n)
	}
	for _, n := range []int{-1, -2, -32, math.MinInt32, math.MinInt} {
		checkDerive(t, secret, hash, id, 'A', n, 0)
	}
	for _, n := range []int{255, 256, 257, 4096, most - 33, most - 32, most - 31, most - 1, most} {
		checkDerive(t, secret, hash, id, 'A', n, n)
	}
	for _, n := range []int{most + 1, most + 32, 10000, math.MaxInt32, math.MaxInt} {
		checkDerive(t, secret, hash, id, 'A', n, most)
	}
}

// P14.1: every letter, and secrets of every length as numbers.
func TestDerive(t *testing.T) {
	source := rand.New(rand.NewSource(5))
	for letter := range 256 {
		checkDerive(t, random(source), random(source), random(source), byte(letter), 100, 100)
	}
	for _, secret := range secrets() {
		checkDerive(t, secret, random(source), random(source), 'F', 70, 70)
		checkDerive(t, secret, [32]byte{}, [32]byte{}, 0, 70, 70)
	}
	for range 300 {
		n := source.Intn(500)
		checkDerive(t, random(source), random(source), random(source), byte(source.Intn(256)), n, n)
	}
}

// P14.1: every argument counts, and the hash and the id are not exchangeable.
func TestDeriveArguments(t *testing.T) {
	a, b, c, d := filled(1), filled(2), filled(3), filled(4)
	seen := map[string]string{}
	add := func(what string, secret, hash, id [32]byte, letter byte) {
		key := kex.Derive(secret, hash, id, letter, 32)
		if seen[key] != "" {
			t.Errorf("%s and %s have one key", what, seen[key])
		}
		seen[key] = what
	}
	add("first", a, b, c, 'C')
	add("another secret", d, b, c, 'C')
	add("another hash", a, d, c, 'C')
	add("another id", a, b, d, 'C')
	add("another letter", a, b, c, 'c')
	add("hash and id exchanged", a, c, b, 'C')
}

// P14.1: the letters C and D, for the two directions.
func TestKeys(t *testing.T) {
	source := rand.New(rand.NewSource(6))
	check := func(secret, hash, id [32]byte) {
		t.Helper()
		keys := kex.Keys(secret, hash, id)
		for i, letter := range "CD" {
			if string(keys[i][:]) != derived(secret, hash, id, byte(letter), 32) {
				t.Errorf("%x, %x, %x: key %d is %x", secret, hash, id, i, keys[i])
			}
		}
	}
	for range 200 {
		check(random(source), random(source), random(source))
	}
	for _, secret := range secrets() {
		hash := random(source)
		check(secret, hash, hash)
		check(secret, [32]byte{}, [32]byte{})
	}
}

// P14.2: both ends compute the same secret, the same hash and the same keys, in every exchange of a session.
func TestBothEnds(t *testing.T) {
	source := rand.New(rand.NewSource(7))
	draws := [][32]byte{{}, {1}, filled(0xff), filled(0x80)}
	for range 8 {
		draws = append(draws, random(source))
	}
	id := random(source)
	for _, a := range draws {
		for _, b := range draws {
			what := fmt.Sprintf("%x and %x", a, b)
			x := exchange(source, 50)
			x.Points = [2][32]byte{curve.Base(a), curve.Base(b)}
			y := x
			var errs [2]error
			x.Secret, errs[0] = kex.Share(a, x.Points[1])
			y.Secret, errs[1] = kex.Share(b, x.Points[0])
			if errs != [2]error{} || x != y || x.Secret == [32]byte{} {
				t.Fatalf("%s: %x, %x, %v", what, x.Secret, y.Secret, errs)
			}
			keys := kex.Keys(x.Secret, x.Hash(), id)
			if keys != kex.Keys(y.Secret, y.Hash(), id) || keys[0] == keys[1] {
				t.Fatalf("%s: keys %x", what, keys)
			}
		}
	}
}
