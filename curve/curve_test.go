package curve_test

import (
	"crypto/ecdh"
	"encoding/hex"
	"math/rand"
	"testing"

	"speakeasy/curve"
)

func unhex(s string) [32]byte {
	b, err := hex.DecodeString(s)
	if err != nil {
		panic(err)
	}
	return [32]byte(b)
}

func random(source *rand.Rand) [32]byte {
	var b [32]byte
	source.Read(b[:])
	return b
}

// flipped returns b with one bit changed.
func flipped(b [32]byte, bit int) [32]byte {
	b[bit/8] ^= 1 << (bit % 8)
	return b
}

// filled returns 32 bytes x.
func filled(x byte) [32]byte {
	var b [32]byte
	for i := range b {
		b[i] = x
	}
	return b
}

// nearPrime returns the bytes of 2^255 - n.
func nearPrime(n byte) [32]byte {
	b := filled(0xff)
	b[0], b[31] = -n, 0x7f
	return b
}

// mult returns the scalar times the point as the library computes it, which
// says by an error that the result is 0.
func mult(scalar, point [32]byte) ([32]byte, bool) {
	private, err := ecdh.X25519().NewPrivateKey(scalar[:])
	if err != nil {
		panic(err)
	}
	public, err := ecdh.X25519().NewPublicKey(point[:])
	if err != nil {
		panic(err)
	}
	x, err := private.ECDH(public)
	if err != nil {
		return [32]byte{}, false
	}
	return [32]byte(x), true
}

func checkMult(t *testing.T, scalar, point [32]byte) {
	t.Helper()
	want, different := mult(scalar, point)
	got, ok := curve.Mult(scalar, point)
	if got != want || ok != different {
		t.Errorf("%x times %x: %x, %v, want %x, %v", scalar, point, got, ok, want, different)
	}
}

// edges returns scalars and points with few or many bits.
func edges() [][32]byte {
	return [][32]byte{
		{}, {1}, {2}, {7}, {8}, {9}, {31: 0x40}, {31: 0x80}, {31: 0xc0}, {8, 31: 0x40}, {0xff, 31: 0xff},
		filled(0xff), filled(0x55), filled(0xaa), nearPrime(1), nearPrime(8), nearPrime(28),
	}
}

// P6.1: the results that RFC 7748 gives (sections 5.2 and 6.1).
func TestExamples(t *testing.T) {
	tests := []struct{ scalar, point, want string }{
		{"a546e36bf0527c9d3b16154b82465edd62144c0ac1fc5a18506a2244ba449ac4", "e6db6867583030db3594c1a424b15f7c726624ec26b3353b10a903a6d0ab1c4c",
			"c3da55379de9c6908e94ea4df28d084f32eccf03491c71f754b4075577a28552"},
		{"4b66e9d4d1b4673c5ad22691957d6af5c11b6421e0ea01d42ca4169e7918ba0d", "e5210f12786811d3f4b7959d0538ae2c31dbe7106fc03c3efc4cd549c715a493",
			"95cbde9476e8907d7aade45cb4b873f88b595a68799fa152e6f8f7647aac7957"},
		{"5dab087e624a8a4b79e17f8b83800ee66f3bb1292618b6fd1c2f8b27ff88e0eb", "8520f0098930a754748b7ddcb43ef75a0dbf3a0d26381af4eba4a98eaa9b4e6a",
			"4a5d9d5ba4ce2de1728e3bf480350f25e07e21c947d19e3376f09b3c1e161742"},
	}
	for i, test := range tests {
		got, ok := curve.Mult(unhex(test.scalar), unhex(test.point))
		if got != unhex(test.want) || !ok {
			t.Errorf("%d: %x, %v, want %s", i, got, ok, test.want)
		}
	}
	if got := curve.Base(unhex(tests[2].scalar)); got != unhex("de9edb7d7b7dc1b4d35b61c2ece435373f8343c85b78674dadfc7e146f882b4f") {
		t.Errorf("times 9: %x", got)
	}
}

// P6.1: the scalar and the point become the result and the scalar, a thousand times (RFC 7748, section 5.2).
func TestRepeated(t *testing.T) {
	scalar, point := [32]byte{9}, [32]byte{9}
	for i := range 1000 {
		got, ok := curve.Mult(scalar, point)
		if !ok {
			t.Fatalf("time %d: 0", i)
		}
		scalar, point = got, scalar
		if i == 0 && scalar != unhex("422c8e7a6227d7bca1350b3e2bb7279f7897b87bb6854b783c60e80311ae3079") {
			t.Errorf("once: %x", scalar)
		}
	}
	if scalar != unhex("684cf59ba83309552800ef566f2f4d3c1c3887c49360e3875f2eb94d99532c51") {
		t.Errorf("1000 times: %x", scalar)
	}
}

// P6.1: edge cases and arbitrary bytes (the same ones in every run), on the
// curve and on its twist.
func TestMult(t *testing.T) {
	source := rand.New(rand.NewSource(1))
	for _, scalar := range edges() {
		for _, point := range edges() {
			checkMult(t, scalar, point)
		}
		checkMult(t, scalar, random(source))
		checkMult(t, random(source), scalar)
	}
	for range 500 {
		checkMult(t, random(source), random(source))
	}
	for n := range byte(64) {
		checkMult(t, random(source), [32]byte{n})
	}
}

// P6.1: points that are not reduced modulo p count as their remainder, and the
// highest bit of a point does not count.
func TestPointReduced(t *testing.T) {
	source := rand.New(rand.NewSource(2))
	for n := range byte(19) {
		scalar := random(source)
		want, different := curve.Mult(scalar, [32]byte{n})
		for _, point := range [][32]byte{nearPrime(19 - n), flipped(nearPrime(19-n), 255), flipped([32]byte{n}, 255)} {
			got, ok := curve.Mult(scalar, point)
			if got != want || ok != different {
				t.Errorf("%x times %x: %x, %v, want %x, %v", scalar, point, got, ok, want, different)
			}
			checkMult(t, scalar, point)
		}
	}
	for range 20 {
		scalar, point := random(source), random(source)
		want, _ := curve.Mult(scalar, point)
		if got, ok := curve.Mult(scalar, flipped(point, 255)); got != want || !ok {
			t.Errorf("%x times %x with another highest bit: %x, %v, want %x", scalar, point, got, ok, want)
		}
	}
}

// P6.1: a point of which a few make the point at infinity gives 0 and false, for every scalar.
func TestZero(t *testing.T) {
	source := rand.New(rand.NewSource(3))
	for _, point := range [][32]byte{
		{}, {1}, nearPrime(20), nearPrime(19), nearPrime(18),
		unhex("e0eb7a7c3b41b8ae1656e3faf19fc46ada098deb9c32b1fd866205165f49b800"),
		unhex("5f9c95bca3508c24b1d0b1559c83ef5b04445cc4581c8e86d8224eddd09f1157"),
	} {
		for _, scalar := range append(edges(), random(source), random(source), random(source)) {
			for _, p := range [][32]byte{point, flipped(point, 255)} {
				if got, ok := curve.Mult(scalar, p); ok || got != [32]byte{} {
					t.Errorf("%x times %x: %x, %v", scalar, p, got, ok)
				}
			}
		}
	}
}

// P6.1: the three lowest bits of a scalar and the two highest ones do not count, and all others do.
func TestScalarBits(t *testing.T) {
	source := rand.New(rand.NewSource(4))
	fixed := map[int]bool{0: true, 1: true, 2: true, 254: true, 255: true}
	for _, scalar := range [][32]byte{random(source), {}, filled(0xff)} {
		point := random(source)
		before, _ := curve.Mult(scalar, point)
		for bit := range 256 {
			changed := flipped(scalar, bit)
			after, _ := curve.Mult(changed, point)
			if same := after == before; same != fixed[bit] {
				t.Errorf("%x with another bit %d: the same result: %v", scalar, bit, same)
			}
			if same := curve.Base(changed) == curve.Base(scalar); same != fixed[bit] {
				t.Errorf("%x with another bit %d, times 9: the same result: %v", scalar, bit, same)
			}
			checkMult(t, changed, point)
		}
	}
}

// P6.1: Base is the scalar times 9.
func TestBase(t *testing.T) {
	source := rand.New(rand.NewSource(5))
	scalars := edges()
	for range 200 {
		scalars = append(scalars, random(source))
	}
	for _, scalar := range scalars {
		want, _ := mult(scalar, [32]byte{9})
		if got := curve.Base(scalar); got != want {
			t.Errorf("%x times 9: %x, want %x", scalar, got, want)
		}
		if got, ok := curve.Mult(scalar, [32]byte{9}); got != want || !ok {
			t.Errorf("%x times 9 as a point: %x, %v, want %x", scalar, got, ok, want)
		}
	}
}

// P6.2: both ends compute the same number, which is not 0.
func TestBoth(t *testing.T) {
	source := rand.New(rand.NewSource(6))
	scalars := edges()
	for range 10 {
		scalars = append(scalars, random(source))
	}
	for _, a := range scalars {
		for _, b := range scalars {
			x, there := curve.Mult(a, curve.Base(b))
			y, back := curve.Mult(b, curve.Base(a))
			if x != y || x == [32]byte{} || !there || !back {
				t.Errorf("%x and %x: %x, %v and %x, %v", a, b, x, there, y, back)
			}
		}
	}
}
