package scalar_test

import (
	"math/big"
	"math/rand"
	"slices"
	"strings"
	"testing"

	"speakeasy/scalar"
)

func power(n uint) *big.Int { return new(big.Int).Lsh(big.NewInt(1), n) }

// order returns L.
func order() *big.Int {
	rest, _ := new(big.Int).SetString("27742317777372353535851937790883648493", 10)
	return rest.Add(rest, power(252))
}

// text returns x as that many bytes, little-endian.
func text(x *big.Int, size int) string {
	b := x.FillBytes(make([]byte, size))
	slices.Reverse(b)
	return string(b)
}

func array(x *big.Int) [32]byte { return [32]byte([]byte(text(x, 32))) }

// little returns the little-endian number in s.
func little(s string) *big.Int {
	b := []byte(s)
	slices.Reverse(b)
	return new(big.Int).SetBytes(b)
}

// modulo returns x modulo L as bytes.
func modulo(x *big.Int) [32]byte { return array(new(big.Int).Mod(x, order())) }

// edges returns numbers below the limit around which carries and reductions go
// wrong: multiples of L, powers of two, sums of them, and the greatest numbers.
func edges(limit *big.Int) []*big.Int {
	var around []*big.Int
	for n := range uint(513) {
		around = append(around, power(n))
	}
	for n := range uint(261) {
		around = append(around, new(big.Int).Lsh(order(), n))
	}
	for n := range int64(17) {
		around = append(around, new(big.Int).Mul(order(), big.NewInt(n)))
	}
	greatest := new(big.Int).Div(limit, order())
	around = append(around, greatest.Mul(greatest, order()), limit)
	var l []*big.Int
	for _, x := range around {
		for d := range int64(5) {
			if y := new(big.Int).Add(x, big.NewInt(d-2)); y.Sign() >= 0 && y.Cmp(limit) < 0 {
				l = append(l, y)
			}
		}
	}
	return l
}

// shorts returns few of the edges below 2^256.
func shorts() []*big.Int {
	var l []*big.Int
	for d := range int64(3) {
		l = append(l, big.NewInt(d), new(big.Int).Sub(power(256), big.NewInt(d+1)))
		for _, x := range []*big.Int{order(), new(big.Int).Lsh(order(), 1), new(big.Int).Rsh(order(), 1), power(64), power(128), power(192), power(252), power(253), power(255)} {
			l = append(l, new(big.Int).Add(x, big.NewInt(d-1)))
		}
	}
	return l
}

func checkReduce(t *testing.T, s string, want [32]byte) {
	t.Helper()
	if got := scalar.Reduce(s); got != want {
		t.Errorf("Reduce of %x: %x, want %x", s, got, want)
	}
}

// P7.1: Reduce of edge cases, and of arbitrary bytes (the same ones in every run).
func TestReduce(t *testing.T) {
	for _, x := range edges(power(512)) {
		checkReduce(t, text(x, 64), modulo(x))
	}
	for _, x := range edges(power(256)) {
		checkReduce(t, text(x, 32), modulo(x))
	}
	source := rand.New(rand.NewSource(1))
	for range 3000 {
		b := make([]byte, 64)
		source.Read(b)
		checkReduce(t, string(b), modulo(little(string(b))))
	}
	checkReduce(t, text(order(), 32), [32]byte{})
}

// P7.1: Reduce takes fewer bytes than 64 all, and of more the first 64.
func TestReduceLength(t *testing.T) {
	source := rand.New(rand.NewSource(2))
	for n := range 65 {
		b := make([]byte, n)
		source.Read(b)
		for _, s := range []string{string(b), strings.Repeat("\xff", n), strings.Repeat("\x00", n)} {
			checkReduce(t, s, modulo(little(s)))
		}
	}
	for _, more := range []int{1, 2, 8, 64, 1000} {
		b := make([]byte, 64+more)
		source.Read(b)
		b[64] |= 1
		checkReduce(t, string(b), modulo(little(string(b[:64]))))
		checkReduce(t, strings.Repeat("\x00", 64)+string(b), [32]byte{})
	}
}

// checkMulAdd takes numbers below 2^256, which need not be below L.
func checkMulAdd(t *testing.T, a, b, c *big.Int) {
	t.Helper()
	sum := new(big.Int).Mul(a, b)
	sum.Add(sum, c)
	if got := scalar.MulAdd(array(a), array(b), array(c)); got != modulo(sum) {
		t.Errorf("%x times %x plus %x: %x, want %x", a, b, c, got, modulo(sum))
	}
}

// P7.1: MulAdd of edge cases and of arbitrary bytes, also of numbers from L on.
func TestMulAdd(t *testing.T) {
	l := shorts()
	for _, a := range l {
		for _, b := range l {
			for _, c := range l {
				checkMulAdd(t, a, b, c)
			}
		}
	}
	source := rand.New(rand.NewSource(3))
	for range 3000 {
		checkMulAdd(t, new(big.Int).Rand(source, power(256)), new(big.Int).Rand(source, power(256)), new(big.Int).Rand(source, power(256)))
		checkMulAdd(t, new(big.Int).Rand(source, order()), new(big.Int).Rand(source, order()), new(big.Int).Rand(source, order()))
	}
}

// P7.1: the results of MulAdd lie next to 0, L and powers of two.
func TestMulAddResults(t *testing.T) {
	source := rand.New(rand.NewSource(4))
	for _, want := range edges(order()) {
		a, b := new(big.Int).Rand(source, order()), new(big.Int).Rand(source, order())
		c := new(big.Int).Mul(a, b)
		c.Mod(c.Sub(want, c), order())
		checkMulAdd(t, a, b, c)
		if got := scalar.MulAdd(array(a), array(b), array(c)); got != array(want) {
			t.Errorf("%x times %x plus %x: %x, want %x", a, b, c, got, want)
		}
	}
}

// P7.1: Fits tells numbers below L from L and greater ones.
func TestFits(t *testing.T) {
	check := func(x *big.Int) {
		t.Helper()
		if got := scalar.Fits(array(x)); got != (x.Cmp(order()) < 0) {
			t.Errorf("Fits of %x: %v", x, got)
		}
	}
	for _, x := range edges(power(256)) {
		check(x)
	}
	for n := range uint(253) {
		check(new(big.Int).Add(order(), power(n)))
		check(new(big.Int).Sub(order(), power(n)))
		check(new(big.Int).SetBit(order(), int(n), 1-order().Bit(int(n))))
	}
	source := rand.New(rand.NewSource(5))
	for range 2000 {
		check(new(big.Int).Rand(source, power(256)))
		check(new(big.Int).Rand(source, power(253)))
	}
}

// P7.1: Bits returns 256 bits, the lowest first, of all numbers.
func TestBits(t *testing.T) {
	check := func(s [32]byte) {
		t.Helper()
		l, x := scalar.Bits(s), little(string(s[:]))
		if len(l) != 256 {
			t.Fatalf("%d bits of %x", len(l), s)
		}
		for i, bit := range l {
			if bit != (x.Bit(i) == 1) {
				t.Errorf("bit %d of %x: %v", i, s, bit)
			}
		}
	}
	check([32]byte{})
	check(array(new(big.Int).Sub(power(256), big.NewInt(1))))
	for n := range uint(256) {
		check(array(power(n)))
	}
	source := rand.New(rand.NewSource(6))
	for range 100 {
		check(array(new(big.Int).Rand(source, power(256))))
	}
}

// P7.1: the bits of two calls share no memory.
func TestBitsNew(t *testing.T) {
	first := scalar.Bits([32]byte{})
	first[0] = true
	if second := scalar.Bits([32]byte{}); second[0] {
		t.Errorf("a bit that another result was given")
	}
}

// P7.2: Fits holds for what Reduce returns, and Reduce returns that, and every
// number for which Fits holds, unchanged.
func TestReduceFits(t *testing.T) {
	source := rand.New(rand.NewSource(7))
	l := edges(power(512))
	for range 1000 {
		l = append(l, new(big.Int).Rand(source, power(512)))
	}
	for _, x := range l {
		s := scalar.Reduce(text(x, 64))
		if !scalar.Fits(s) || scalar.Reduce(string(s[:])) != s {
			t.Errorf("Reduce of %x: %x, which doesn't fit or isn't the same when reduced", x, s)
		}
	}
	for range 1000 {
		l = append(l, new(big.Int).Rand(source, order()))
	}
	for _, x := range l {
		if x.Cmp(power(256)) >= 0 {
			continue
		}
		s := array(x)
		if unchanged := scalar.Reduce(string(s[:])) == s; unchanged != scalar.Fits(s) {
			t.Errorf("%x: Reduce leaves it unchanged: %v, Fits: %v", s, unchanged, scalar.Fits(s))
		}
	}
}
