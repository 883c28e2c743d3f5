package edsign

import (
	"speakeasy/field"
	"speakeasy/scalar"
)

// quotient is the point (x/z, y/z), where xy is z times t. A sum of quotients
// needs no inverse. The denominators of a sum are never 0, as d is not a square.
type quotient struct {
	x, y, z, t field.Elem
}

// addend is a point as it is added: y + x, y - x and 2dxy.
type addend struct {
	sum, difference, product field.Elem
}

func (p point) addend() addend {
	product := p.x.Mul(p.y).Mul(field.Of(curveD))
	return addend{p.y.Add(p.x), p.y.Sub(p.x), product.Add(product)}
}

func neutral() quotient { return quotient{y: field.Small(1), z: field.Small(1)} }

// encoded returns the encoding of the point that q is.
func (q quotient) encoded() [32]byte {
	inverse := q.z.Invert()
	return point{q.x.Mul(inverse), q.y.Mul(inverse)}.encoded()
}

// plus returns q + p.
func (q quotient) plus(p addend) quotient {
	sums, differences := q.y.Add(q.x).Mul(p.sum), q.y.Sub(q.x).Mul(p.difference)
	z, product := q.z.Add(q.z), q.t.Mul(p.product)
	return ratio(sums.Sub(differences), z.Add(product), sums.Add(differences), z.Sub(product))
}

// twice returns q + q.
func (q quotient) twice() quotient {
	xx, yy, zz := q.x.Square(), q.y.Square(), q.z.Square()
	both, less := yy.Add(xx), yy.Sub(xx)
	// By the equation of the curve, z^4 + dx^2y^2 is z^2 (y^2 - x^2).
	return ratio(q.x.Add(q.y).Square().Sub(both), less, both, zz.Add(zz).Sub(less))
}

// ratio returns the point (x1/x2, y1/y2).
func ratio(x1, x2, y1, y2 field.Elem) quotient {
	return quotient{x1.Mul(y2), y1.Mul(x2), x2.Mul(y2), x1.Mul(y1)}
}

func choose(first bool, p, q quotient) quotient {
	return quotient{
		field.Choose(first, p.x, q.x), field.Choose(first, p.y, q.y),
		field.Choose(first, p.z, q.z), field.Choose(first, p.t, q.t),
	}
}

// timesBase returns the scalar times the base point. It makes the same steps
// for every scalar, because these scalars are secret.
func timesBase(secret [32]byte) quotient {
	p, sum := base().addend(), neutral()
	l := scalar.Bits(secret)
	for i := range len(l) {
		twice := sum.twice()
		sum = choose(l[len(l)-1-i], twice.plus(p), twice)
	}
	return sum
}

// combined returns s times the base point plus k times p. Neither is secret.
func combined(s, k [32]byte, p point) quotient {
	first, second, sum := base().addend(), p.addend(), neutral()
	firstBits, secondBits := scalar.Bits(s), scalar.Bits(k)
	for i := range len(firstBits) {
		at := len(firstBits) - 1 - i
		sum = sum.twice()
		if firstBits[at] {
			sum = sum.plus(first)
		}
		if secondBits[at] {
			sum = sum.plus(second)
		}
	}
	return sum
}
