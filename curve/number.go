package curve

import "math/bits"

const (
	limbBits = 51
	limbs    = 5
	limbMask = 1<<limbBits - 1
	// over255 is what 2^255 is, modulo p.
	over255 = 19
)

// number is modulo p = 2^255 - 19, in limbs of 51 bits, the lowest first. Every call here answers limbs below 2^51 + 2^6, and may be handed such.
type number [limbs]uint64

// numberOf is a public's: its highest bit counts as 0.
func numberOf(b [32]byte) number {
	var n number
	for i := range limbs * limbBits {
		bit := uint64(b[i/8]>>(i%8)) & 1
		n[i/limbBits] |= bit << (i % limbBits)
	}
	return n
}

// bytesOf is n from 0 to p - 1, the lowest byte first.
func bytesOf(n number) [32]byte {
	n = least(n)
	var out [32]byte
	for i := range limbs * limbBits {
		bit := byte(n[i/limbBits]>>(i%limbBits)) & 1
		out[i/8] |= bit << (i % 8)
	}
	return out
}

// least is n from 0 to p - 1. Behind one more carry it is below 2^255; what has bit 255 with 19 more isn't below p.
func least(n number) number {
	n = carried(n)
	less := n
	less[0] += over255
	for i := range limbs - 1 {
		less[i+1] += less[i] >> limbBits
		less[i] &= limbMask
	}
	isMore := less[limbs-1] >> limbBits
	less[limbs-1] &= limbMask
	return chosen(n, less, isMore)
}

// chosen is a, or b if bit is 1, in as many steps.
func chosen(a, b number, bit uint64) number {
	mask := -bit
	for i, x := range b {
		a[i] ^= mask & (a[i] ^ x)
	}
	return a
}

func plus(a, b number) number {
	for i, x := range b {
		a[i] += x
	}
	return carried(a)
}

// minus adds p twice, so that no limb falls below 0.
func minus(a, b number) number {
	for i, x := range b {
		twice := uint64(2 * limbMask)
		if i == 0 {
			twice -= 2 * (over255 - 1)
		}
		a[i] += twice - x
	}
	return carried(a)
}

// carried is n, of which each limb gave to the next one what it had beyond its bits, and the last one to the first.
func carried(n number) number {
	var over uint64
	for i, x := range n {
		x += over
		n[i] = x & limbMask
		over = x >> limbBits
	}
	n[0] += over255 * over
	return n
}

// times is a times b. What goes beyond the last limb comes in again at the first one, 19 times; a limb's sum of products has 128 bits till it is carried.
func times(a, b number) number {
	var folded [2 * limbs]uint64
	for i, x := range b {
		folded[i], folded[limbs+i] = over255*x, x
	}
	var out number
	var more uint64
	for place := range limbs {
		high, low := uint64(0), more
		for i, x := range a {
			h, l := bits.Mul64(x, folded[limbs+place-i])
			sum, over := bits.Add64(low, l, 0)
			low = sum
			high += h + over
		}
		out[place] = low & limbMask
		more = high<<(64-limbBits) | low>>limbBits
	}
	out[0] += over255 * more
	return carried(out)
}

func square(n number) number { return times(n, n) }

// inverse is n to the power of p - 2, of whose bits all are 1 but bits 2 and 4; of 0 it is 0.
func inverse(n number) number {
	out := number{1}
	for i := topBit; i >= 0; i-- {
		out = square(out)
		if i != 2 && i != 4 {
			out = times(out, n)
		}
	}
	return out
}
