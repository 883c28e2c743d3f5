package scalar

import "math/bits"

// reduced returns x modulo L. It takes in one bit of x after the other, the
// highest first, by the same steps for every x, because scalars are secret.
func reduced(x wide) number {
	var rest number
	for i := range wideCount * limbBits {
		at := wideCount*limbBits - 1 - i
		// As the rest is less than L, twice the rest plus a bit is less than twice L.
		rest = lessOrder(twicePlus(rest, x[at/limbBits]>>(at%limbBits)&1))
	}
	return rest
}

// twicePlus returns twice x plus the bit.
func twicePlus(x number, bit uint64) number {
	for i := range limbCount {
		x[i], bit = x[i]<<1|bit, x[i]>>(limbBits-1)
	}
	return x
}

// lessOrder returns x if it is less than L, and x - L otherwise.
func lessOrder(x number) number {
	less, below := minusOrder(x)
	mask := -below
	for i := range limbCount {
		less[i] ^= mask & (less[i] ^ x[i])
	}
	return less
}

// minusOrder returns x - L modulo 2^256, and 1 if x is less than L, otherwise 0.
func minusOrder(x number) (number, uint64) {
	var borrow uint64
	for i := range limbCount {
		x[i], borrow = bits.Sub64(x[i], order[i], borrow)
	}
	return x, borrow
}

// productSum returns x times y plus z, which is always less than 2^512.
func productSum(x, y, z number) wide {
	var sum wide
	copy(sum[:], z[:])
	for i := range limbCount {
		var carry uint64
		for j := range limbCount {
			carry, sum[i+j] = multiplyAdd(x[i], y[j], sum[i+j], carry)
		}
		sum[i+limbCount] = carry
	}
	return sum
}

// multiplyAdd returns x times y, plus both m and n, which always fits into two words.
func multiplyAdd(x, y, m, n uint64) (high, low uint64) {
	high, low = bits.Mul64(x, y)
	low, carry := bits.Add64(low, m, 0)
	high += carry
	low, carry = bits.Add64(low, n, 0)
	return high + carry, low
}
