package field

// minus1Root holds the limbs of the square root of -1 that is not odd, the lowest first.
var minus1Root = [limbCount]uint64{0xc4ee1b274a0ea0b0, 0x2f431806ad2fe478, 0x2b4d00993dfbd7a7, 0x2b8324804fc1df0b}

// Invert returns the number that makes 1 of a, or 0 if a is 0.
func (a Elem) Invert() Elem {
	square := a.Square()
	power11 := square.squares(2).Mul(square).Mul(a)
	return a.ones(250).squares(5).Mul(power11) // a to the power of p - 2 = 2^255 - 32 + 11
}

// Root returns the number r that is not odd and for which r^2 v is u, and true;
// or 0 and false if there is none. For u = 0 it returns 0 and true.
func Root(u, v Elem) (Elem, bool) {
	// As p is 8k + 5, r^2 v is u times a number whose fourth power is 1, unless
	// v is 0: u or -u if u/v is a square.
	cube := v.Square().Mul(v)
	r := u.Mul(cube).Mul(u.Mul(cube.Square()).Mul(v).rootPower())
	found := r.Square().Mul(v)
	switch {
	case found == u.Neg():
		r = r.Mul(Minus1Root())
	case found != u:
		return Elem{}, false
	}
	return Choose(r.Odd(), r.Neg(), r), true
}

// Minus1Root returns the square root of -1 that is not odd.
func Minus1Root() Elem { return Elem{minus1Root} }

// rootPower returns a to the power of (p - 5)/8 = 2^252 - 4 + 1.
func (a Elem) rootPower() Elem { return a.ones(250).squares(2).Mul(a) }

// ones returns a to the power of 2^n - 1, which has n binary digits 1, for n of
// at least 1. It takes few products because it doubles these digits.
func (a Elem) ones(n int) Elem {
	if n == 1 {
		return a
	}
	half := a.ones(n / 2)
	power := half.squares(n / 2).Mul(half)
	if n%2 == 1 {
		power = power.Square().Mul(a)
	}
	return power
}

// squares returns a squared n times.
func (a Elem) squares(n int) Elem {
	for range n {
		a = a.Square()
	}
	return a
}
