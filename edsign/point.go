package edsign

import "speakeasy/field"

const (
	// curveD is d = -121665/121666, and baseX and baseY are the base point.
	curveD = "\xa3\x78\x59\x13\xca\x4d\xeb\x75\xab\xd8\x41\x41\x4d\x0a\x70\x00\x98\xe8\x79\x77\x79\x40\xc7\x8c\x73\xfe\x6f\x2b\xee\x6c\x03\x52"
	baseX  = "\x1a\xd5\x25\x8f\x60\x2d\x56\xc9\xb2\xa7\x25\x95\x60\xc7\x2c\x69\x5c\xdc\xd6\xfd\x31\xe2\xa4\xc0\xfe\x53\x6e\xcd\xd3\x36\x69\x21"
	baseY  = "\x58\x66\x66\x66\x66\x66\x66\x66\x66\x66\x66\x66\x66\x66\x66\x66\x66\x66\x66\x66\x66\x66\x66\x66\x66\x66\x66\x66\x66\x66\x66\x66"

	oddBit = 0x80 // of the last byte of an encoding
)

// point is a point (x, y).
type point struct {
	x, y field.Elem
}

func base() point { return point{field.Of(baseX), field.Of(baseY)} }

func (p point) negative() point { return point{p.x.Neg(), p.y} }

func (p point) encoded() [32]byte {
	b := p.y.Bytes()
	if p.x.Odd() {
		b[size-1] |= oddBit
	}
	return b
}

// decoded returns the point whose encoding b is, or false if it is none.
func decoded(b [32]byte) (point, bool) {
	y := field.Of(string(b[:]))
	one, square := field.Small(1), y.Square()
	x, ok := field.Root(square.Sub(one), square.Mul(field.Of(curveD)).Add(one))
	if b[size-1]&oddBit != 0 {
		x = x.Neg()
	}
	p := point{x, y}
	if !ok || p.encoded() != b {
		return point{}, false
	}
	return p, true
}
