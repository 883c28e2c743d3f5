package sha2

import "math/bits"

// k256 holds the first 32 bits of the fractional parts of the cube roots of the first 64 primes.
var k256 = [64]uint32{
	0x428a2f98, 0x71374491, 0xb5c0fbcf, 0xe9b5dba5, 0x3956c25b, 0x59f111f1, 0x923f82a4, 0xab1c5ed5,
	0xd807aa98, 0x12835b01, 0x243185be, 0x550c7dc3, 0x72be5d74, 0x80deb1fe, 0x9bdc06a7, 0xc19bf174,
	0xe49b69c1, 0xefbe4786, 0x0fc19dc6, 0x240ca1cc, 0x2de92c6f, 0x4a7484aa, 0x5cb0a9dc, 0x76f988da,
	0x983e5152, 0xa831c66d, 0xb00327c8, 0xbf597fc7, 0xc6e00bf3, 0xd5a79147, 0x06ca6351, 0x14292967,
	0x27b70a85, 0x2e1b2138, 0x4d2c6dfc, 0x53380d13, 0x650a7354, 0x766a0abb, 0x81c2c92e, 0x92722c85,
	0xa2bfe8a1, 0xa81a664b, 0xc24b8b70, 0xc76c51a3, 0xd192e819, 0xd6990624, 0xf40e3585, 0x106aa070,
	0x19a4c116, 0x1e376c08, 0x2748774c, 0x34b0bcb5, 0x391c0cb3, 0x4ed8aa4a, 0x5b9cca4f, 0x682e6ff3,
	0x748f82ee, 0x78a5636f, 0x84c87814, 0x8cc70208, 0x90befffa, 0xa4506ceb, 0xbef9a3f7, 0xc67178f2,
}

func compress256(h [8]uint32, block []byte) [8]uint32 {
	w := schedule256(block)
	v := h
	for t := range 64 {
		e0 := rotate256(v[0], 2) ^ rotate256(v[0], 13) ^ rotate256(v[0], 22)
		e1 := rotate256(v[4], 6) ^ rotate256(v[4], 11) ^ rotate256(v[4], 25)
		step(&v, e0, e1, k256[t]+w[t])
	}
	for i := range 8 {
		h[i] += v[i]
	}
	return h
}

func schedule256(block []byte) [64]uint32 {
	var w [64]uint32
	for t := range 16 {
		w[t] = readWord[uint32](block[4*t : 4*t+4])
	}
	for i := range 48 {
		x, y := w[i+1], w[i+14]
		s0 := rotate256(x, 7) ^ rotate256(x, 18) ^ x>>3
		s1 := rotate256(y, 17) ^ rotate256(y, 19) ^ y>>10
		w[i+16] = s1 + w[i+9] + s0 + w[i]
	}
	return w
}

func rotate256(x uint32, n int) uint32 { return bits.RotateLeft32(x, -n) }
