// Package curve is layer 6: secrets that two share: see shared/doc/06-curve.md.
package curve

// topBit is the highest bit of a secret's number: it is always 1.
const topBit = 254

// base is the public whose multiples are everybody's publics.
const base = 9

// Public: a secret's; Shared: of a secret and somebody's public; false: it is nought.
func Public(secret [32]byte) [32]byte {
	public, _ := Shared(secret, [32]byte{base})
	return public
}

func Shared(secret, public [32]byte) ([32]byte, bool) {
	s, u := clamped(secret), numberOf(public)
	at := ladder{x1: u, x2: number{1}, x3: u, z3: number{1}}
	for i := topBit; i >= 0; i-- {
		bit := uint64(s[i/8]>>(i%8)) & 1
		at = at.swapped(bit).stepped().swapped(bit)
	}
	out := bytesOf(times(at.x2, inverse(at.z2)))
	return out, out != [32]byte{}
}

// clamped is a secret's number, as bytes.
func clamped(secret [32]byte) [32]byte {
	secret[0] &= 0xf8
	secret[31] &= 0x7f
	secret[31] |= 0x40
	return secret
}

// ladder is a public and two of its multiples, one of which is always once more than the other.
type ladder struct {
	x1, x2, z2, x3, z3 number
}

// swapped has its multiples in each other's places, if bit is 1. A secret's bit chooses no way through the code.
func (l ladder) swapped(bit uint64) ladder {
	l.x2, l.x3 = chosen(l.x2, l.x3, bit), chosen(l.x3, l.x2, bit)
	l.z2, l.z3 = chosen(l.z2, l.z3, bit), chosen(l.z3, l.z2, bit)
	return l
}

// stepped is the first multiple twice, and the sum of both.
func (l ladder) stepped() ladder {
	a, b := plus(l.x2, l.z2), minus(l.x2, l.z2)
	c, d := plus(l.x3, l.z3), minus(l.x3, l.z3)
	da, cb := times(d, a), times(c, b)
	aa, bb := square(a), square(b)
	e := minus(aa, bb)
	return ladder{
		x1: l.x1,
		x2: times(aa, bb),
		z2: times(e, plus(aa, times(number{121665}, e))),
		x3: square(plus(da, cb)),
		z3: times(l.x1, square(minus(da, cb))),
	}
}
