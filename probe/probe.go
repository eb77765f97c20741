// Package probe has what the tests of all layers share: bytes of any length, a watch over bytes that are lent to a call, and what stands on a disk.
package probe

import (
	"bytes"
	"slices"
	"strconv"

	"relay/disk"
)

// spare is how much room stands behind lent bytes.
const spare = 80

// Bytes is n bytes, others for each seed.
func Bytes(n, seed int) []byte {
	out := make([]byte, n)
	x := uint32(seed)*2654435761 + 12345
	for i := range out {
		x = x*1664525 + 1013904223
		out[i] = byte(x >> 24)
	}
	return out
}

// Array is 32 bytes, others for each seed.
func Array(seed int) [32]byte { return [32]byte(Bytes(32, seed)) }

// Hex is the bytes that stand in s in base 16, two signs each; nothing, if it can't be read.
func Hex(s string) []byte {
	var out []byte
	for i := 0; i < len(s); i += 2 {
		x, err := strconv.ParseUint(s[i:min(i+2, len(s))], 16, 8)
		if err != nil || i+2 > len(s) {
			return nil
		}
		out = append(out, byte(x))
	}
	return out
}

// Lent is bytes with spare room behind them, and what both were.
type Lent struct {
	all, was []byte
	n        int
}

// Lend: a copy of b, to be handed in; Bytes: it; Kept: are it and its spare room as they were? Spoil: they are others from here on.
func Lend(b []byte) Lent {
	all := slices.Concat(b, Bytes(spare, len(b)))
	return Lent{all: all, was: slices.Clone(all), n: len(b)}
}

func (l Lent) Bytes() []byte { return l.all[:l.n] }

func (l Lent) Kept() bool { return bytes.Equal(l.all, l.was) }

func (l Lent) Spoil() { Spoil(l.all) }

// Spoil makes all of b other bytes, its spare room too.
func Spoil(b []byte) {
	b = b[:cap(b)]
	for i := range b {
		b[i] ^= 0xa5
	}
}

// Image is what stands in all sectors of d, whether there is power or not.
func Image(d *disk.Disk) []byte {
	c := d.Copy()
	c.Up()
	var out []byte
	for i := range c.Size() {
		b, _ := c.Read(i)
		out = append(out, b...)
	}
	return out
}
