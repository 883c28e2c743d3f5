package edsign_test

import (
	"crypto/sha512"
	"math/big"
	"slices"
)

// This file computes with points as the document defines them, in big integers
// and with an inverse for every sum.

func power(n uint) *big.Int { return new(big.Int).Lsh(big.NewInt(1), n) }

// prime returns 2^255 - 19.
func prime() *big.Int { return new(big.Int).Sub(power(255), big.NewInt(19)) }

// order returns L.
func order() *big.Int {
	rest, _ := new(big.Int).SetString("27742317777372353535851937790883648493", 10)
	return rest.Add(rest, power(252))
}

func number(n int64) *big.Int           { return big.NewInt(n) }
func modulo(x *big.Int) *big.Int        { return new(big.Int).Mod(x, prime()) }
func sum(x, y *big.Int) *big.Int        { return modulo(new(big.Int).Add(x, y)) }
func difference(x, y *big.Int) *big.Int { return modulo(new(big.Int).Sub(x, y)) }
func product(x, y *big.Int) *big.Int    { return modulo(new(big.Int).Mul(x, y)) }
func ratio(x, y *big.Int) *big.Int      { return product(x, new(big.Int).ModInverse(y, prime())) }

// curveD is d.
var curveD = ratio(difference(number(0), number(121665)), number(121666))

type point struct{ x, y *big.Int }

func neutral() point { return point{number(0), number(1)} }

// base returns B.
func base() point {
	b, _ := decoded(array(ratio(number(4), number(5))))
	return b
}

func (p point) negative() point { return point{difference(number(0), p.x), p.y} }

func (p point) plus(q point) point {
	all := product(product(product(p.x, q.x), product(p.y, q.y)), curveD)
	return point{
		ratio(sum(product(p.x, q.y), product(q.x, p.y)), sum(number(1), all)),
		ratio(sum(product(p.y, q.y), product(p.x, q.x)), difference(number(1), all)),
	}
}

// times returns n times p.
func (p point) times(n *big.Int) point {
	total := neutral()
	for i := range n.BitLen() {
		total = total.plus(total)
		if n.Bit(n.BitLen()-1-i) == 1 {
			total = total.plus(p)
		}
	}
	return total
}

// encoded returns the encoding of p.
func (p point) encoded() [32]byte {
	return array(new(big.Int).SetBit(p.y, 255, p.x.Bit(0)))
}

// decoded returns the point whose encoding b is.
func decoded(b [32]byte) (point, bool) {
	y := little(b[:])
	odd := y.Bit(255)
	y.SetBit(y, 255, 0)
	square := product(y, y)
	xx := ratio(difference(square, number(1)), sum(product(curveD, square), number(1)))
	x := new(big.Int).ModSqrt(xx, prime())
	if x == nil || y.Cmp(prime()) >= 0 || x.Sign() == 0 && odd == 1 {
		return point{}, false
	}
	if x.Bit(0) != odd {
		x = difference(number(0), x)
	}
	return point{x, y}, true
}

// array returns x as 32 bytes, little-endian.
func array(x *big.Int) [32]byte {
	b := x.FillBytes(make([]byte, 32))
	slices.Reverse(b)
	return [32]byte(b)
}

// little returns the little-endian number in b.
func little(b []byte) *big.Int {
	b = slices.Clone(b)
	slices.Reverse(b)
	return new(big.Int).SetBytes(b)
}

// challenge returns k.
func challenge(first, key [32]byte, m string) *big.Int {
	hash := sha512.Sum512(slices.Concat(first[:], key[:], []byte(m)))
	k := little(hash[:])
	return k.Mod(k, order())
}

// verify says what Verify must.
func verify(key [32]byte, m string, sig [64]byte) bool {
	first, s := [32]byte(sig[:32]), little(sig[32:])
	a, ok := decoded(key)
	if !ok || s.Cmp(order()) >= 0 {
		return false
	}
	return base().times(s).plus(a.negative().times(challenge(first, key, m))).encoded() == first
}

// signature returns first and s as a signature.
func signature(first [32]byte, s *big.Int) [64]byte {
	last := array(s)
	return [64]byte(slices.Concat(first[:], last[:]))
}

// torsion returns the points of which eight make the neutral element; the
// second one makes all of them.
func torsion() []point {
	x := number(2)
	for {
		p, ok := decoded(array(x))
		p8 := neutral()
		if ok {
			p8 = p.times(order())
		}
		if four := p8.times(number(4)); four.encoded() != neutral().encoded() {
			l := []point{neutral()}
			for range 7 {
				l = append(l, l[len(l)-1].plus(p8))
			}
			return l
		}
		x = sum(x, number(1))
	}
}
