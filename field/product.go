package field

import "math/bits"

// Mul returns a times b.
func (a Elem) Mul(b Elem) Elem {
	var product [2 * limbCount]uint64
	for i := range limbCount {
		var carry uint64
		for j := range limbCount {
			carry, product[i+j] = multiplyAdd(a.limbs[i], b.limbs[j], product[i+j], carry)
		}
		product[i+limbCount] = carry
	}
	return folded(product)
}

// Square returns a times a.
func (a Elem) Square() Elem { return a.Mul(a) }

// folded returns the number in the limbs of a product, modulo p.
func folded(product [2 * limbCount]uint64) Elem {
	var a Elem
	var carry uint64
	for i := range limbCount {
		carry, a.limbs[i] = multiplyAdd(2*excess, product[i+limbCount], product[i], carry) // 2^256 counts as 38
	}
	// The product was less than 2^510, so that carry is at most 10, and what is
	// added in place of all bits from 255 on makes the number still less than 2p.
	high := carry<<1 | a.limbs[limbCount-1]>>63
	a.limbs[limbCount-1] &^= topBit
	return a.plus(excess * high).reduced()
}

// multiplyAdd returns x times y, plus both m and n, which always fits into two words.
func multiplyAdd(x, y, m, n uint64) (high, low uint64) {
	high, low = bits.Mul64(x, y)
	low, carry := bits.Add64(low, m, 0)
	high += carry
	low, carry = bits.Add64(low, n, 0)
	return high + carry, low
}
