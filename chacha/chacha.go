// Package chacha is layer 3: a stream of bytes out of a key: see shared/doc/03-chacha.md.
package chacha

import "math/bits"

// blockSize is how many bytes a Block has.
const blockSize = 64

// name is what each state begins with.
const name = "expand 32-byte k"

// state is sixteen numbers: of the name, a key, a count and a nonce.
type state [16]uint32

// Block: of a key, a count and a nonce; Stream: bytes, with those that follow from a count on.
func Block(key [32]byte, count uint32, nonce [12]byte) [64]byte {
	ahead := start(key, count, nonce)
	s := ahead
	for range 10 {
		s = double(s)
	}
	var out [blockSize]byte
	for i, x := range s {
		x += ahead[i]
		for k := range 4 {
			out[4*i+k] = byte(x >> (8 * k))
		}
	}
	return out
}

func Stream(key [32]byte, count uint32, nonce [12]byte, b []byte) []byte {
	out := make([]byte, len(b))
	var block [blockSize]byte
	for i, x := range b {
		place := i % blockSize
		if place == 0 {
			block = Block(key, count, nonce)
			count++
		}
		out[i] = x ^ block[place]
	}
	return out
}

// start is the state ahead of all rounds.
func start(key [32]byte, count uint32, nonce [12]byte) state {
	var s state
	for i := range 16 {
		s[i/4] |= uint32(name[i]) << (8 * (i % 4))
	}
	for i, x := range key {
		s[4+i/4] |= uint32(x) << (8 * (i % 4))
	}
	s[12] = count
	for i, x := range nonce {
		s[13+i/4] |= uint32(x) << (8 * (i % 4))
	}
	return s
}

// double is a round of the columns, and one of the diagonals.
func double(s state) state {
	s[0], s[4], s[8], s[12] = quarter(s[0], s[4], s[8], s[12])
	s[1], s[5], s[9], s[13] = quarter(s[1], s[5], s[9], s[13])
	s[2], s[6], s[10], s[14] = quarter(s[2], s[6], s[10], s[14])
	s[3], s[7], s[11], s[15] = quarter(s[3], s[7], s[11], s[15])

	s[0], s[5], s[10], s[15] = quarter(s[0], s[5], s[10], s[15])
	s[1], s[6], s[11], s[12] = quarter(s[1], s[6], s[11], s[12])
	s[2], s[7], s[8], s[13] = quarter(s[2], s[7], s[8], s[13])
	s[3], s[4], s[9], s[14] = quarter(s[3], s[4], s[9], s[14])
	return s
}

// quarter mixes four numbers.
func quarter(a, b, c, d uint32) (uint32, uint32, uint32, uint32) {
	a += b
	d = bits.RotateLeft32(d^a, 16)
	c += d
	b = bits.RotateLeft32(b^c, 12)
	a += b
	d = bits.RotateLeft32(d^a, 8)
	c += d
	b = bits.RotateLeft32(b^c, 7)
	return a, b, c, d
}
