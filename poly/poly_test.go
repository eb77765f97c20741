package poly_test

import (
	"bytes"
	"encoding/hex"
	"math/big"
	"slices"
	"strings"
	"testing"

	"relay/poly"
	"relay/probe"
)

// TestKnownTags: P4.1, of RFC 8439: an ordinary one, and those whose sums come near the modulus.
func TestKnownTags(t *testing.T) {
	noughts := strings.Repeat("00", 16)
	ones := strings.Repeat("ff", 16)
	for _, c := range []struct{ key, text, want string }{
		{"85d6be7857556d337f4452fe42d506a80103808afb0db2fd4abff6af4149f51b",
			hex.EncodeToString([]byte("Cryptographic Forum Research Group")), "a8061dc1305136c6c22b8baf0c0127a9"},
		{noughts + noughts, strings.Repeat("00", 64), noughts},
		{"02" + noughts[2:] + noughts, ones, "03" + noughts[2:]},
		{"02" + noughts[2:] + ones, "02" + noughts[2:], "03" + noughts[2:]},
		{"01" + noughts[2:] + noughts, ones + "f0" + ones[2:] + "11" + noughts[2:], "05" + noughts[2:]},
		{"01" + noughts[2:] + noughts, ones + "fb" + strings.Repeat("fe", 15) + strings.Repeat("01", 16), noughts},
		{"02" + noughts[2:] + noughts, "fd" + ones[2:], "fa" + ones[2:]},
		{"01000000000000000400000000000000" + noughts,
			"e33594d7505e43b900000000000000003394d7505e4379cd01000000000000000000000000000000000000000000000001000000000000000000000000000000",
			"14000000000000005500000000000000"},
		{"01000000000000000400000000000000" + noughts,
			"e33594d7505e43b900000000000000003394d7505e4379cd010000000000000000000000000000000000000000000000", "13" + noughts[2:]},
	} {
		if tag := poly.Tag([32]byte(probe.Hex(c.key)), probe.Hex(c.text)); hex.EncodeToString(tag[:]) != c.want {
			t.Errorf("%s: %x", c.key, tag)
		}
	}
}

// number is that of bytes, the lowest first.
func number(b []byte) *big.Int {
	b = slices.Clone(b)
	slices.Reverse(b)
	return new(big.Int).SetBytes(b)
}

// plainTag is the chapter's words, by numbers of any length.
func plainTag(key [32]byte, b []byte) [16]byte {
	half := slices.Clone(key[:16])
	for _, i := range []int{3, 7, 11, 15} {
		half[i] &= 15
	}
	for _, i := range []int{4, 8, 12} {
		half[i] &= 252
	}
	modulus := new(big.Int).Sub(new(big.Int).Lsh(big.NewInt(1), 130), big.NewInt(5))
	n := new(big.Int)
	for part := range slices.Chunk(b, 16) {
		n.Add(n, number(append(slices.Clone(part), 1)))
		n.Mod(n.Mul(n, number(half)), modulus)
	}
	n.Add(n, number(key[16:]))
	var out [16]byte
	n.And(n, number(bytes.Repeat([]byte{255}, 16))).FillBytes(out[:])
	slices.Reverse(out[:])
	return out
}

// TestTagOfEachLength: P4.1, of ordinary and of the greatest keys and texts.
func TestTagOfEachLength(t *testing.T) {
	high := [32]byte(bytes.Repeat([]byte{255}, 32))
	for n := range 150 {
		ordinary, ones := probe.Bytes(n, n), bytes.Repeat([]byte{255}, n)
		for _, key := range [][32]byte{probe.Array(n), high, {}, {1}, {15: 255}, {31: 255}} {
			for _, b := range [][]byte{ordinary, ones, make([]byte, n)} {
				if tag := poly.Tag(key, b); tag != plainTag(key, b) {
					t.Errorf("key %x, %d bytes: %x", key, n, tag)
				}
			}
		}
	}
}

// TestNearTheModulus: P4.1; with r 1 the sums of two blocks go from below the modulus to above it, those of four from below it twice.
func TestNearTheModulus(t *testing.T) {
	for low := range 256 {
		for _, key := range [][32]byte{{0: 1}, {0: 1, 16: 255}, {0: 4}} {
			text := append(bytes.Repeat([]byte{255}, 48), byte(low))
			text = append(text, bytes.Repeat([]byte{255}, 15)...)
			for _, b := range [][]byte{text, text[32:], text[16:]} {
				if tag := poly.Tag(key, b); tag != plainTag(key, b) {
					t.Errorf("key %x, %x: %x", key, b, tag)
				}
			}
		}
	}
}

// TestKeyBits: P4.1; just the bits of r that the chapter leaves out aren't looked at.
func TestKeyBits(t *testing.T) {
	b := probe.Bytes(40, 1)
	for i := range 256 {
		key := probe.Array(2)
		tag := poly.Tag(key, b)
		key[i/8] ^= 1 << (i % 8)
		place, bit := i/8, i%8
		left := place < 16 && (place%4 == 3 && bit > 3 || place%4 == 0 && place > 0 && bit < 2)
		if (poly.Tag(key, b) == tag) != left {
			t.Errorf("byte %d, bit %d: left out should be %v", place, bit, left)
		}
	}
}

// TestLengthCounts: P4.1; a nought behind makes another tag.
func TestLengthCounts(t *testing.T) {
	seen := map[[16]byte]int{}
	for n := range 50 {
		tag := poly.Tag(probe.Array(3), make([]byte, n))
		if k, ok := seen[tag]; ok {
			t.Errorf("%d and %d noughts have one tag", k, n)
		}
		seen[tag] = n
	}
	if poly.Tag(probe.Array(3), nil) != [16]byte(probe.Bytes(32, 3)[16:]) {
		t.Error("no byte's tag isn't the key's second half")
	}
}

// TestLentBytesStay: P4.2.
func TestLentBytesStay(t *testing.T) {
	for _, n := range []int{0, 1, 15, 16, 17, 40} {
		b := probe.Lend(probe.Bytes(n, 1))
		poly.Tag(probe.Array(1), b.Bytes())
		if !b.Kept() {
			t.Errorf("%d bytes that were handed in were changed", n)
		}
		b.Spoil()
		if poly.Tag(probe.Array(1), b.Bytes()) != plainTag(probe.Array(1), b.Bytes()) {
			t.Errorf("of %d bytes something was kept from the call ahead", n)
		}
	}
}
