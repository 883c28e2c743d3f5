package field_test

import (
	"math"
	"math/big"
	"math/rand"
	"slices"
	"strings"
	"testing"

	"speakeasy/field"
)

func power(n uint) *big.Int { return new(big.Int).Lsh(big.NewInt(1), n) }

// prime returns 2^255 - 19.
func prime() *big.Int { return new(big.Int).Sub(power(255), big.NewInt(19)) }

// modulo returns x modulo p, never negative.
func modulo(x *big.Int) *big.Int { return new(big.Int).Mod(x, prime()) }

func sum(x, y *big.Int) *big.Int        { return modulo(new(big.Int).Add(x, y)) }
func difference(x, y *big.Int) *big.Int { return modulo(new(big.Int).Sub(x, y)) }
func product(x, y *big.Int) *big.Int    { return modulo(new(big.Int).Mul(x, y)) }

// inverse returns the inverse of x, which isn't 0.
func inverse(x *big.Int) *big.Int { return new(big.Int).ModInverse(x, prime()) }

// text returns x, which is less than 2^256, as 32 bytes, little-endian.
func text(x *big.Int) string {
	b := x.FillBytes(make([]byte, 32))
	slices.Reverse(b)
	return string(b)
}

// little returns the little-endian number in s.
func little(s string) *big.Int {
	b := []byte(s)
	slices.Reverse(b)
	return new(big.Int).SetBytes(b)
}

func elem(x *big.Int) field.Elem { return field.Of(text(x)) }

// random returns a number below p.
func random(source *rand.Rand) *big.Int { return new(big.Int).Rand(source, prime()) }

// edges returns numbers from 0 to p - 1 around which carries and reductions go
// wrong: the smallest and the greatest, halves of p, and powers of two.
func edges() []*big.Int {
	var l []*big.Int
	for n := range int64(21) {
		l = append(l, big.NewInt(n), difference(new(big.Int), big.NewInt(n+1)))
	}
	half := new(big.Int).Rsh(prime(), 1)
	l = append(l, big.NewInt(38), half, sum(half, big.NewInt(1)))
	for _, n := range []uint{25, 26, 32, 51, 52, 63, 64, 96, 102, 127, 128, 153, 191, 192, 204, 224, 253, 254} {
		for d := range int64(3) {
			l = append(l, sum(power(n), big.NewInt(d-1)))
		}
	}
	return l
}

// check reports whether got isn't the number want, from 0 to p - 1, in any of the ways to look at it.
func check(t *testing.T, got field.Elem, want *big.Int, what string, from ...*big.Int) {
	t.Helper()
	b := got.Bytes()
	if string(b[:]) != text(want) {
		t.Errorf("%s of %x: %x, want %x", what, from, little(string(b[:])), want)
	}
	if got.Odd() != (want.Bit(0) == 1) || got.Zero() != (want.Sign() == 0) {
		t.Errorf("%s of %x is %x, odd: %v, zero: %v", what, from, want, got.Odd(), got.Zero())
	}
	same, other := elem(want), elem(sum(want, big.NewInt(1)))
	if !field.Same(got, same) || !field.Same(same, got) || field.Same(got, other) || field.Same(other, got) {
		t.Errorf("%s of %x is not the same as %x, or the same as another number", what, from, want)
	}
}

// P5.1: Of takes bytes of every bit, without the highest one, and reduces them.
func TestOf(t *testing.T) {
	source := rand.New(rand.NewSource(1))
	l := slices.Concat(edges(), []*big.Int{prime()})
	for n := range int64(19) {
		l = append(l, new(big.Int).Add(prime(), big.NewInt(n))) // up to 2^255 - 1
	}
	for n := range uint(255) {
		l = append(l, power(n), new(big.Int).Sub(power(255), new(big.Int).Add(power(n), big.NewInt(1))))
	}
	for range 200 {
		l = append(l, random(source))
	}
	for _, x := range l {
		s := text(x)
		check(t, field.Of(s), modulo(x), "Of", x)
		high := s[:31] + string([]byte{s[31] | 0x80})
		check(t, field.Of(high), modulo(x), "Of with the highest bit", x)
		check(t, field.Of(s+"\xff\x01"), modulo(x), "Of with more bytes", x)
		check(t, field.Of(high+strings.Repeat("\xff", 40)), modulo(x), "Of with the highest bit and more bytes", x)
	}
	check(t, field.Of(strings.Repeat("\xff", 32)), big.NewInt(18), "Of 32 bytes ff")
}

// P5.1: missing bytes are zero.
func TestOfShort(t *testing.T) {
	source := rand.New(rand.NewSource(2))
	whole := make([]byte, 31)
	source.Read(whole)
	for n := range 32 {
		for _, s := range []string{string(whole[:n]), strings.Repeat("\xff", n), strings.Repeat("\x00", n)} {
			check(t, field.Of(s), little(s), "Of fewer bytes", little(s))
		}
	}
}

// P5.1: Small takes all 64 bits, and the zero value is 0.
func TestSmall(t *testing.T) {
	l := []uint64{0, 1, 2, 18, 19, 20, 255, 256, 1<<32 - 1, 1 << 32, 1<<51 - 1, 1 << 51, 1<<52 + 1, math.MaxInt64, 1 << 63, math.MaxUint64}
	for n := range 64 {
		l = append(l, 1<<n, math.MaxUint64-1<<n)
	}
	for _, n := range l {
		x := new(big.Int).SetUint64(n)
		check(t, field.Small(n), x, "Small", x)
		check(t, field.Small(n).Neg(), difference(new(big.Int), x), "Small, negative,", x)
		check(t, field.Small(n).Mul(field.Small(n)), product(x, x), "Small, squared,", x)
	}
	check(t, field.Elem{}, new(big.Int), "the zero value")
}

// checkPair checks what two numbers make.
func checkPair(t *testing.T, x, y *big.Int) {
	t.Helper()
	a, b := elem(x), elem(y)
	check(t, a.Add(b), sum(x, y), "Add", x, y)
	check(t, a.Sub(b), difference(x, y), "Sub", x, y)
	check(t, a.Mul(b), product(x, y), "Mul", x, y)
	if field.Same(a, b) != (x.Cmp(y) == 0) {
		t.Errorf("Same of %x and %x", x, y)
	}
}

// P5.1: sums, differences and products, of edge cases and of arbitrary numbers
// (the same ones in every run).
func TestArithmetic(t *testing.T) {
	l := edges()
	for _, x := range l {
		for _, y := range l {
			checkPair(t, x, y)
		}
	}
	source := rand.New(rand.NewSource(3))
	for range 5000 {
		checkPair(t, random(source), random(source))
	}
}

// P5.1: the negative and the square.
func TestNegSquare(t *testing.T) {
	source := rand.New(rand.NewSource(4))
	l := edges()
	for range 2000 {
		l = append(l, random(source))
	}
	for _, x := range l {
		check(t, elem(x).Neg(), difference(new(big.Int), x), "Neg", x)
		check(t, elem(x).Square(), product(x, x), "Square", x)
		check(t, elem(x).Sub(elem(x)), new(big.Int), "a - a", x)
		check(t, elem(x).Add(elem(x).Neg()), new(big.Int), "a + -a", x)
	}
}

// P5.1: results that lie around a power of two or around 0, where a carry or
// the last reduction may get lost.
func TestResults(t *testing.T) {
	source := rand.New(rand.NewSource(5))
	for n := range uint(256) {
		x := random(source)
		inverted := inverse(x)
		for d := range int64(61) {
			want := sum(power(n), big.NewInt(20*(d-30)+int64(source.Intn(20))))
			check(t, elem(x).Mul(elem(product(want, inverted))), want, "Mul", x, want)
			check(t, elem(x).Add(elem(difference(want, x))), want, "Add", x, want)
			check(t, elem(x).Sub(elem(difference(x, want))), want, "Sub", x, want)
		}
	}
	for range 200 {
		x := random(source)
		inverted := inverse(x)
		for n := range int64(40) {
			for _, want := range []*big.Int{big.NewInt(n), difference(new(big.Int), big.NewInt(n+1))} {
				check(t, elem(x).Mul(elem(product(want, inverted))), want, "Mul", x, want)
			}
		}
	}
}

// P5.1: results are used again and again, many times without a product between.
func TestChains(t *testing.T) {
	source := rand.New(rand.NewSource(6))
	l := edges()
	for range 300 {
		x := l[source.Intn(len(l))]
		a := elem(x)
		for range 100 {
			y := l[source.Intn(len(l))]
			switch source.Intn(6) {
			case 0, 1:
				a, x = a.Add(elem(y)), sum(x, y)
			case 2:
				a, x = a.Sub(elem(y)), difference(x, y)
			case 3:
				a, x = elem(y).Sub(a), difference(y, x)
			case 4:
				a, x = a.Neg(), difference(new(big.Int), x)
			case 5:
				a, x = a.Mul(elem(y).Add(a)), product(x, sum(y, x))
			}
			check(t, a, x, "a chain up to", y)
		}
	}
	for _, x := range []*big.Int{big.NewInt(1), difference(new(big.Int), big.NewInt(1)), power(254)} {
		added, subtracted := field.Elem{}, field.Elem{}
		for range 3000 {
			added, subtracted = added.Add(elem(x)), subtracted.Sub(elem(x))
		}
		want := product(x, big.NewInt(3000))
		check(t, added.Mul(subtracted), difference(new(big.Int), product(want, want)), "3000 sums times 3000 differences", x)
	}
}

// P5.1: Same sees every differing bit.
func TestSame(t *testing.T) {
	source := rand.New(rand.NewSource(7))
	for n := range uint(255) {
		x := new(big.Int).Rand(source, power(250))
		y := new(big.Int).SetBit(x, int(n), 1-x.Bit(int(n)))
		if field.Same(elem(x), elem(y)) || !field.Same(elem(x), elem(x)) {
			t.Errorf("%x and the same with another bit %d", x, n)
		}
	}
	if field.Same(field.Small(1), field.Small(1).Neg()) || !field.Same(field.Of(text(prime())), field.Elem{}) {
		t.Errorf("1 and -1, or p and 0")
	}
}

// P5.1: Choose returns one of both, whole.
func TestChoose(t *testing.T) {
	l := edges()
	for _, x := range l {
		for _, y := range l {
			check(t, field.Choose(true, elem(x), elem(y)), x, "Choose the first", x, y)
			check(t, field.Choose(false, elem(x), elem(y)), y, "Choose the second", x, y)
		}
	}
}

// P5.2: the laws of a ring.
func TestRing(t *testing.T) {
	source := rand.New(rand.NewSource(8))
	l := edges()
	for range 20 {
		l = append(l, random(source))
	}
	same := func(what string, a, b field.Elem) {
		t.Helper()
		if !field.Same(a, b) || a.Bytes() != b.Bytes() {
			t.Errorf("%s: %x and %x", what, a.Bytes(), b.Bytes())
		}
	}
	one := field.Small(1)
	for range 5000 {
		a, b, c := elem(l[source.Intn(len(l))]), elem(l[source.Intn(len(l))]), elem(l[source.Intn(len(l))])
		same("a + b = b + a", a.Add(b), b.Add(a))
		same("(a + b) + c = a + (b + c)", a.Add(b).Add(c), a.Add(b.Add(c)))
		same("ab = ba", a.Mul(b), b.Mul(a))
		same("(ab)c = a(bc)", a.Mul(b).Mul(c), a.Mul(b.Mul(c)))
		same("a(b + c) = ab + ac", a.Mul(b.Add(c)), a.Mul(b).Add(a.Mul(c)))
		same("a(b - c) = ab - ac", a.Mul(b.Sub(c)), a.Mul(b).Sub(a.Mul(c)))
		same("(a - b) + b = a", a.Sub(b).Add(b), a)
		same("a - b = a + -b", a.Sub(b), a.Add(b.Neg()))
		same("a + 0 = a", a.Add(field.Elem{}), a)
		same("1a = a", one.Mul(a), a)
		same("a0 = 0", a.Mul(field.Elem{}), field.Elem{})
		same("aa = a squared", a.Mul(a), a.Square())
	}
}

// P5.3, P5.1: a number times its inverse is 1, and the inverse of 0 is 0.
func TestInvert(t *testing.T) {
	source := rand.New(rand.NewSource(9))
	l := edges()
	for range 300 {
		l = append(l, random(source))
	}
	for _, x := range l {
		if x.Sign() == 0 {
			check(t, elem(x).Invert(), x, "Invert", x)
			continue
		}
		check(t, elem(x).Invert(), inverse(x), "Invert", x)
		check(t, elem(x).Mul(elem(x).Invert()), big.NewInt(1), "a times its inverse", x)
	}
	check(t, field.Of(text(prime())).Invert(), new(big.Int), "Invert", prime())
}
