package aes

import "math/bits"

const wordSize = 4

// box holds the Sub of every byte, and the byte of every Sub.
type box struct {
	sub, byteOf [256]byte
}

// newBox makes the tables. Every byte but 0 is a power of 3, and the 255th power is
// 1 again; so the inverse of the power i is the power 255 - i.
func newBox() box {
	var powers [256]byte
	power := byte(1)
	for i := range powers {
		powers[i] = power
		power ^= double(power)
	}
	var x box
	x.sub[0] = spread(0)
	for i := range 255 {
		x.sub[powers[i]] = spread(powers[255-i])
	}
	for i := range x.sub {
		x.byteOf[x.sub[i]] = byte(i)
	}
	return x
}

// spread returns the Sub of the byte whose inverse is b.
func spread(b byte) byte {
	s := b ^ 0x63
	for i := range 4 {
		s ^= bits.RotateLeft8(b, i+1)
	}
	return s
}

// double returns the product of b and the polynomial x.
func double(b byte) byte { return b<<1 ^ (b>>7)*0x1b }

// expand returns the expanded key.
func (x *box) expand(key string) []byte {
	words := len(key) / wordSize
	expanded := []byte(key)
	power := byte(1)
	for i := words; i < wordSize*(words+7); i++ {
		t := [wordSize]byte(expanded[len(expanded)-wordSize:])
		switch {
		case i%words == 0:
			t = x.replaceWord([wordSize]byte{t[1], t[2], t[3], t[0]})
			t[0] ^= power
			power = double(power)
		case words == 8 && i%8 == 4:
			t = x.replaceWord(t)
		}
		for j := range wordSize {
			expanded = append(expanded, t[j]^expanded[len(expanded)-len(key)])
		}
	}
	return expanded
}

func (x *box) replaceWord(w [wordSize]byte) [wordSize]byte {
	for i := range wordSize {
		w[i] = x.sub[w[i]]
	}
	return w
}
