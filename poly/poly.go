// Package poly is layer 4: tags of bytes, by a key that is good for one: see shared/doc/04-poly.md.
package poly

const (
	// blockSize is how many bytes are added at once.
	blockSize = 16
	// limbBits: two limbs' product, five times over, has room in 64 bits.
	limbBits = 26
	limbs    = 5
	limbMask = 1<<limbBits - 1
)

// number is modulo 2^130 - 5, in limbs of 26 bits, the lowest first. Between steps a limb may be a little longer.
type number [limbs]uint64

// Tag: of bytes.
func Tag(key [32]byte, b []byte) [16]byte {
	r := clamped(key)
	var n number
	for at := 0; at < len(b); at += blockSize {
		var part [blockSize + 1]byte
		part[copy(part[:blockSize], b[at:])] = 1
		n = times(plus(n, numberOf(part)), r)
	}
	return sumWith(least(n), key)
}

// clamped is the number of key's first half, without the bits that are left out.
func clamped(key [32]byte) number {
	var half [blockSize + 1]byte
	copy(half[:blockSize], key[:])
	for i := 3; i < blockSize; i += 4 {
		half[i] &= 0x0f
	}
	for i := 4; i < blockSize; i += 4 {
		half[i] &= 0xfc
	}
	return numberOf(half)
}

// numberOf is the number of bytes, the lowest first.
func numberOf(b [blockSize + 1]byte) number {
	var n number
	for i, x := range b {
		n[8*i/limbBits] += uint64(x) << (8 * i % limbBits)
	}
	return carried(n)
}

// byteOf is byte i of a number whose limbs have 26 bits each.
func byteOf(n number, i int) byte {
	limb, shift := 8*i/limbBits, 8*i%limbBits
	x := n[limb] >> shift
	if limb+1 < limbs {
		x |= n[limb+1] << (limbBits - shift)
	}
	return byte(x)
}

func plus(a, b number) number {
	for i, x := range b {
		a[i] += x
	}
	return a
}

// times is a times b. What goes beyond the last limb comes in again at the first one, five times, as 2^130 is 5.
func times(a, b number) number {
	var out number
	for i, x := range a {
		for k, y := range b {
			if i+k < limbs {
				out[i+k] += x * y
			} else {
				out[i+k-limbs] += 5 * x * y
			}
		}
	}
	return carried(carried(out))
}

// carried is n, of which each limb gave to the next one what it had beyond its bits.
func carried(n number) number {
	var over uint64
	for i, x := range n {
		x += over
		n[i] = x & limbMask
		over = x >> limbBits
	}
	n[0] += 5 * over
	return n
}

// least is n from 0 to 2^130 - 6. Behind one more carry no limb is longer than its bits; what carries out with 5 more isn't below the modulus.
func least(n number) number {
	n = carried(n)
	over := uint64(5)
	var less number
	for i, x := range n {
		x += over
		less[i] = x & limbMask
		over = x >> limbBits
	}
	if over != 0 {
		return less
	}
	return n
}

// sumWith is n and the number of key's second half: the lower 16 bytes of it.
func sumWith(n number, key [32]byte) [16]byte {
	var out [16]byte
	over := 0
	for i := range out {
		over += int(byteOf(n, i)) + int(key[blockSize+i])
		out[i] = byte(over)
		over >>= 8
	}
	return out
}
