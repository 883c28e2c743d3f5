package poly

const (
	limbs    = 5
	limbBits = 26
	limbMask = 1<<limbBits - 1
)

// number is a number modulo 2^130 - 5. Its limbs of 26 bits each, the lowest
// first, leave the rest of their words to sums that aren't carried yet.
type number [limbs]uint64

// readNumber returns the little-endian number in b, which is less than 2^130.
func readNumber(b [chunkSize + 1]byte) number {
	var x number
	for i := range limbs {
		first := i * limbBits / 8
		x[i] = readWord(b[first:first+4]) >> (i * limbBits % 8) & limbMask
	}
	return x
}

// plus returns x + y, not carried.
func plus(x, y number) number {
	for i := range limbs {
		x[i] += y[i]
	}
	return x
}

// times returns x times y modulo 2^130 - 5, with limbs below 2^26 but for the
// lowest, which is below 2^26 + 5. As the limbs of x are below 2^28 and those of
// y below 2^26, the sums of products stay below 2^59.
func times(x, y number) number {
	var product number
	for i := range limbs {
		for j := range limbs {
			if i+j < limbs {
				product[i+j] += x[i] * y[j]
			} else {
				product[i+j-limbs] += 5 * x[i] * y[j] // 2^130 counts as 5
			}
		}
	}
	// The carry of the highest limb may make the lowest one greater than a
	// limb; the second carry is at most 1.
	return folded(folded(product))
}

// carried returns the limbs of x, each below 2^26, and the carry of the highest one.
func carried(x number) (number, uint64) {
	var carry uint64
	for i := range limbs {
		x[i] += carry
		carry = x[i] >> limbBits
		x[i] &= limbMask
	}
	return x, carry
}

// folded returns x carried, with five times the carry of the highest limb
// added to the lowest one.
func folded(x number) number {
	x, carry := carried(x)
	x[0] += 5 * carry
	return x
}

// reduced returns the smallest number that equals x modulo 2^130 - 5. It takes
// 0 or a result of times, which is less than 2^130 + 5.
func reduced(x number) number {
	x = folded(x)
	less, carry := carried(plus(x, number{5}))
	if carry == 0 {
		return x
	}
	return less // x + 5 - 2^130
}

// lowWords returns the lowest 128 bits of x, whose limbs are below 2^26.
func lowWords(x number) (low, high uint64) {
	low = x[0] | x[1]<<26 | x[2]<<52
	high = x[2]>>12 | x[3]<<14 | x[4]<<40
	return low, high
}

// readWord returns the little-endian number in b, which has at most 8 bytes.
func readWord(b []byte) uint64 {
	var x uint64
	for i := range len(b) {
		x |= uint64(b[i]) << (8 * i)
	}
	return x
}

// putWord stores x in b as a little-endian number.
func putWord(b []byte, x uint64) {
	for i := range len(b) {
		b[i] = byte(x >> (8 * i))
	}
}
