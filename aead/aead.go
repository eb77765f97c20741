// Package aead is layer 5: texts that are sealed: see shared/doc/05-aead.md.
package aead

import (
	"relay/api"
	"relay/chacha"
	"relay/poly"
	"relay/sha"
)

// textCount is the stream's count that a text begins with: the one ahead of it gives the tag's key.
const textCount = 1

// Seal: a text under a key and a nonce, with more bytes that are looked at; Open: back.
func Seal(key [32]byte, nonce [12]byte, text, more []byte) []byte {
	out := chacha.Stream(key, textCount, nonce, text)
	tag := tagOf(key, nonce, out, more)
	return append(out, tag[:]...)
}

func Open(key [32]byte, nonce [12]byte, b, more []byte) ([]byte, api.Errno) {
	end := len(b) - api.TagSize
	if end < 0 {
		return nil, api.ErrShort
	}
	tag := tagOf(key, nonce, b[:end], more)
	if !sha.Same(tag[:], b[end:]) {
		return nil, api.ErrOpen
	}
	return chacha.Stream(key, textCount, nonce, b[:end]), api.OK
}

// tagOf is the tag of bytes that a stream was put to, and of more.
func tagOf(key [32]byte, nonce [12]byte, b, more []byte) [16]byte {
	block := chacha.Block(key, textCount-1, nonce)
	var all []byte
	all = putFilled(all, more)
	all = putFilled(all, b)
	all = putCount(all, len(more))
	all = putCount(all, len(b))
	return poly.Tag([32]byte(block[:32]), all)
}

// putFilled is all, and b behind it, with noughts up to a multiple of 16 bytes.
func putFilled(all, b []byte) []byte {
	all = append(all, b...)
	for len(all)%16 != 0 {
		all = append(all, 0)
	}
	return all
}

// putCount is all, and n behind it in 8 bytes, the lowest first.
func putCount(all []byte, n int) []byte {
	for i := range 8 {
		all = append(all, byte(n>>(8*i)))
	}
	return all
}
