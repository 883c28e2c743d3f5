package aes

const columns = 4

// replace returns the block with the Sub of each byte.
func (x *box) replace(b [blockSize]byte) [blockSize]byte {
	for i := range blockSize {
		b[i] = x.sub[b[i]]
	}
	return b
}

// restore reverses replace.
func (x *box) restore(b [blockSize]byte) [blockSize]byte {
	for i := range blockSize {
		b[i] = x.byteOf[b[i]]
	}
	return b
}

// add returns the xor of two blocks.
func add(a, b [blockSize]byte) [blockSize]byte {
	for i := range blockSize {
		a[i] ^= b[i]
	}
	return a
}

// shift moves the bytes of row r by r columns.
func shift(b [blockSize]byte) [blockSize]byte {
	var shifted [blockSize]byte
	for i := range blockSize {
		row := i % wordSize
		shifted[i] = b[(i+wordSize*row)%blockSize]
	}
	return shifted
}

// unshift reverses shift: the fourth time, shift makes every block what it was.
func unshift(b [blockSize]byte) [blockSize]byte { return shift(shift(shift(b))) }

// mix multiplies the columns. As 3 is the sum of 2 and 1, the new byte a, which is
// 2a + 3b + c + d, is the sum of all, a and 2(a + b); and so on for b, c and d.
func mix(b [blockSize]byte) [blockSize]byte {
	for c := range columns {
		column := [wordSize]byte(b[wordSize*c:])
		all := column[0] ^ column[1] ^ column[2] ^ column[3]
		for r := range wordSize {
			below := column[(r+1)%wordSize]
			b[wordSize*c+r] ^= all ^ double(column[r]^below)
		}
	}
	return b
}

// unmix reverses mix: the fourth time, mix makes every block what it was, as the fourth
// power of the polynomial by which it multiplies the columns is 1.
func unmix(b [blockSize]byte) [blockSize]byte { return mix(mix(mix(b))) }
