package sha2

import "slices"

// word is the unit of both hash functions: 32 bits for Sum256, 64 bits for Sum512.
type word interface{ uint32 | uint64 }

// eachBlock passes the blocks of the padded input to compress, in order. It
// fills one block again and again, because joining the strings first would
// double the memory of a long input.
func eachBlock(size int, l []string, compress func(block []byte)) {
	block := make([]byte, size)
	used := 0
	for _, s := range slices.Concat(l, []string{padding(size, l)}) {
		for len(s) > 0 {
			n := copy(block[used:], s)
			s = s[n:]
			used += n
			if used == size {
				compress(block)
				used = 0
			}
		}
	}
}

// padding returns what follows the strings of l: the byte 80, zero bytes, and
// the number of bits, which takes an eighth of a block.
func padding(size int, l []string) string {
	length := 0
	for _, s := range l {
		length += len(s)
	}
	least := 1 + size/8
	zeros := (size - (length+least)%size) % size
	pad := make([]byte, least+zeros)
	pad[0] = 0x80
	// No input has 2^61 bytes, so the upper half of a number of 16 bytes is zero.
	putWord(pad[len(pad)-8:], uint64(length)*8)
	return string(pad)
}

// step makes one step of the compression with the variables a to h, which are
// v. Its arguments e0 and e1 are those of a and e, and kw is Kt + Wt.
func step[W word](v *[8]W, e0, e1, kw W) {
	choice := v[4]&v[5] ^ ^v[4]&v[6]
	majority := v[0]&v[1] ^ v[0]&v[2] ^ v[1]&v[2]
	t1 := v[7] + e1 + choice + kw
	t2 := e0 + majority
	copy(v[1:], v[:7])
	v[4] += t1
	v[0] = t1 + t2
}

// readWord returns the big-endian number in b.
func readWord[W word](b []byte) W {
	var x W
	for i := range len(b) {
		x = x<<8 | W(b[i])
	}
	return x
}

// putWord stores x in b as a big-endian number.
func putWord[W word](b []byte, x W) {
	for i := range len(b) {
		b[len(b)-1-i] = byte(x >> (8 * i))
	}
}
