// Package sha is layer 1: sums, and sums under a key: see shared/doc/01-sha.md.
package sha

import "math/bits"

// blockSize is how many bytes are taken in at once.
const blockSize = 64

// state is the eight numbers that blocks go into.
type state [8]uint32

// begin is what a sum begins with: square roots of the first eight primes.
var begin = [8]uint32{
	0x6a09e667, 0xbb67ae85, 0x3c6ef372, 0xa54ff53a,
	0x510e527f, 0x9b05688c, 0x1f83d9ab, 0x5be0cd19,
}

// rounds is a constant a round: cube roots of the first 64 primes.
var rounds = [64]uint32{
	0x428a2f98, 0x71374491, 0xb5c0fbcf, 0xe9b5dba5, 0x3956c25b, 0x59f111f1, 0x923f82a4, 0xab1c5ed5,
	0xd807aa98, 0x12835b01, 0x243185be, 0x550c7dc3, 0x72be5d74, 0x80deb1fe, 0x9bdc06a7, 0xc19bf174,
	0xe49b69c1, 0xefbe4786, 0x0fc19dc6, 0x240ca1cc, 0x2de92c6f, 0x4a7484aa, 0x5cb0a9dc, 0x76f988da,
	0x983e5152, 0xa831c66d, 0xb00327c8, 0xbf597fc7, 0xc6e00bf3, 0xd5a79147, 0x06ca6351, 0x14292967,
	0x27b70a85, 0x2e1b2138, 0x4d2c6dfc, 0x53380d13, 0x650a7354, 0x766a0abb, 0x81c2c92e, 0x92722c85,
	0xa2bfe8a1, 0xa81a664b, 0xc24b8b70, 0xc76c51a3, 0xd192e819, 0xd6990624, 0xf40e3585, 0x106aa070,
	0x19a4c116, 0x1e376c08, 0x2748774c, 0x34b0bcb5, 0x391c0cb3, 0x4ed8aa4a, 0x5b9cca4f, 0x682e6ff3,
	0x748f82ee, 0x78a5636f, 0x84c87814, 0x8cc70208, 0x90befffa, 0xa4506ceb, 0xbef9a3f7, 0xc67178f2,
}

// Sum: of bytes; Mac: of bytes under a key; Same: are two the same? in as many steps, wherever they differ.
func Sum(b []byte) [32]byte { return finish(state(begin), 0, b) }

func Mac(key, b []byte) [32]byte {
	inner := finish(padded(key, 0x36), blockSize, b)
	return finish(padded(key, 0x5c), blockSize, inner[:])
}

func Same(a, b []byte) bool {
	if len(a) != len(b) {
		return false
	}
	var differ byte
	for i, x := range a {
		differ |= x ^ b[i]
	}
	return differ == 0
}

// padded is where a sum stands behind a key's block, each byte of which is put together with pad.
func padded(key []byte, pad byte) state {
	var block [blockSize]byte
	if len(key) > blockSize {
		sum := Sum(key)
		copy(block[:], sum[:])
	} else {
		copy(block[:], key)
	}
	for i := range block {
		block[i] ^= pad
	}
	return take(state(begin), block[:])
}

// finish is the sum of b, where so many bytes ahead of it (whole blocks) have gone into s already.
func finish(s state, ahead uint64, b []byte) [32]byte {
	at := 0
	for len(b)-at >= blockSize {
		s = take(s, b[at:at+blockSize])
		at += blockSize
	}
	var last [2 * blockSize]byte
	n := copy(last[:], b[at:])
	last[n] = 0x80
	end := blockSize
	if n+1+8 > blockSize {
		end = 2 * blockSize
	}
	count := 8 * (ahead + uint64(len(b)))
	for i := range 8 {
		last[end-1-i] = byte(count >> (8 * i))
	}
	for at := 0; at < end; at += blockSize {
		s = take(s, last[at:at+blockSize])
	}
	return bytesOf(s)
}

// bytesOf is a state's numbers, the highest byte of each first.
func bytesOf(s state) [32]byte {
	var out [32]byte
	for i, x := range s {
		for k := range 4 {
			out[4*i+k] = byte(x >> (24 - 8*k))
		}
	}
	return out
}

// take is what s is behind a block.
func take(s state, block []byte) state {
	w := spread(block)
	a, b, c, d, e, f, g, h := s[0], s[1], s[2], s[3], s[4], s[5], s[6], s[7]
	for i, x := range w {
		t := h + turned(e, 6, 11, 25) + (e&f ^ ^e&g) + rounds[i] + x
		u := turned(a, 2, 13, 22) + (a&b ^ a&c ^ b&c)
		h, g, f = g, f, e
		e = d + t
		d, c, b = c, b, a
		a = t + u
	}
	return state{s[0] + a, s[1] + b, s[2] + c, s[3] + d, s[4] + e, s[5] + f, s[6] + g, s[7] + h}
}

// spread is a block's 16 numbers, and those that follow from them.
func spread(block []byte) [64]uint32 {
	var w [64]uint32
	for i := range 16 {
		for _, x := range block[4*i : 4*i+4] {
			w[i] = w[i]<<8 | uint32(x)
		}
	}
	for i := 16; i < len(w); i++ {
		w[i] = shifted(w[i-2], 17, 19, 10) + w[i-7] + shifted(w[i-15], 7, 18, 3) + w[i-16]
	}
	return w
}

// turned is x turned right by three counts, put together.
func turned(x uint32, i, k, l int) uint32 {
	return right(x, i) ^ right(x, k) ^ right(x, l)
}

// shifted is x turned right by two counts and shifted by a third, put together.
func shifted(x uint32, i, k, by int) uint32 {
	return right(x, i) ^ right(x, k) ^ x>>by
}

func right(x uint32, n int) uint32 { return bits.RotateLeft32(x, -n) }
