package field_test

import (
	"math/big"
	"math/rand"
	"testing"

	"speakeasy/field"
)

// root returns the number r that is even and for which r^2 v is u, as the
// library finds it, and whether there is one.
func root(u, v *big.Int) (*big.Int, bool) {
	if u.Sign() == 0 {
		return new(big.Int), true
	}
	if v.Sign() == 0 {
		return new(big.Int), false
	}
	r := new(big.Int).ModSqrt(product(u, inverse(v)), prime())
	if r == nil {
		return new(big.Int), false
	}
	if r.Bit(0) == 1 {
		r.Sub(prime(), r)
	}
	return r, true
}

// checkRoot checks Root of u and v, and returns whether there is one.
func checkRoot(t *testing.T, u, v *big.Int) bool {
	t.Helper()
	want, there := root(u, v)
	got, ok := field.Root(elem(u), elem(v))
	if ok != there {
		t.Errorf("Root of %x and %x: %v", u, v, ok)
	}
	check(t, got, want, "Root", u, v)
	if ok && !field.Same(got.Square().Mul(elem(v)), elem(u)) {
		t.Errorf("Root of %x and %x is %x", u, v, got.Bytes())
	}
	return there
}

// P5.1, P5.3: roots of edge cases and of arbitrary numbers. About half of them exist.
func TestRoot(t *testing.T) {
	source := rand.New(rand.NewSource(10))
	found, missing := 0, 0
	count := func(there bool) {
		if there {
			found++
		} else {
			missing++
		}
	}
	l := edges()
	for _, u := range l {
		for _, v := range l {
			if source.Intn(5) == 0 {
				count(checkRoot(t, u, v))
			}
		}
	}
	for range 300 {
		count(checkRoot(t, random(source), random(source)))
	}
	if found < 100 || missing < 100 {
		t.Errorf("%d roots, %d without", found, missing)
	}
}

// P5.1: with 0 as one number or as both.
func TestRootZero(t *testing.T) {
	for _, x := range edges() {
		checkRoot(t, x, new(big.Int))
		checkRoot(t, new(big.Int), x)
	}
	if r, ok := field.Root(field.Elem{}, field.Elem{}); !ok || !r.Zero() {
		t.Errorf("0 and 0: %x, %v", r.Bytes(), ok)
	}
	if r, ok := field.Root(field.Small(4), field.Of(text(prime()))); ok || !r.Zero() {
		t.Errorf("4 and p: %x, %v", r.Bytes(), ok)
	}
	if r, ok := field.Root(field.Of(text(prime())), field.Small(2)); !ok || !r.Zero() {
		t.Errorf("p and 2: %x, %v", r.Bytes(), ok)
	}
}

// P5.1, P5.3: the quotient of u and v is each of the four kinds: its power
// (p - 1)/4 is 1, -1 or a root of -1. A square times v has a root. Twice that
// has none, but has one again times the root of -1.
func TestRootKinds(t *testing.T) {
	source := rand.New(rand.NewSource(11))
	quarter := new(big.Int).Rsh(prime(), 2)
	kinds := map[string]int{}
	for range 200 {
		r, v := random(source), random(source)
		u := product(product(r, r), v)
		twice := product(u, big.NewInt(2))
		again := product(twice, power2Root())
		if !checkRoot(t, u, v) || checkRoot(t, twice, v) || !checkRoot(t, again, v) {
			t.Errorf("no root of %x and %x, or one of twice that", u, v)
		}
		for _, w := range []*big.Int{u, twice, again} {
			kinds[new(big.Int).Exp(product(w, inverse(v)), quarter, prime()).String()]++
		}
	}
	if len(kinds) != 4 {
		t.Errorf("%d kinds", len(kinds))
	}
}

// power2Root returns a root of -1, as a power of 2.
func power2Root() *big.Int {
	return new(big.Int).Exp(big.NewInt(2), new(big.Int).Rsh(prime(), 2), prime())
}

// P5.1: roots of small squares are these numbers if they are even, and else their negatives.
func TestRootSmall(t *testing.T) {
	for n := range uint64(300) {
		r, ok := field.Root(field.Small(n*n), field.Small(1))
		want := new(big.Int).SetUint64(n)
		if n%2 == 1 {
			want = difference(new(big.Int), want)
		}
		if !ok {
			t.Errorf("no root of the square of %d", n)
		}
		check(t, r, want, "Root", want)
	}
	for _, n := range []uint64{2, 8, 18, 32, 50} {
		if r, ok := field.Root(field.Small(n), field.Small(1)); ok || !r.Zero() {
			t.Errorf("%d: %x, %v", n, r.Bytes(), ok)
		}
	}
}

// P5.1: the even root of -1.
func TestMinus1Root(t *testing.T) {
	minus1 := difference(new(big.Int), big.NewInt(1))
	want, _ := root(minus1, big.NewInt(1))
	check(t, field.Minus1Root(), want, "Minus1Root")
	check(t, field.Minus1Root().Square(), minus1, "Minus1Root, squared")
	checkRoot(t, minus1, big.NewInt(1))
	checkRoot(t, big.NewInt(1), minus1)
}
