package aead_test

import (
	"bytes"
	"encoding/binary"
	"encoding/hex"
	"testing"

	"relay/aead"
	"relay/api"
	"relay/chacha"
	"relay/poly"
	"relay/probe"
)

const sunscreen = "Ladies and Gentlemen of the class of '99: If I could offer you only one tip for the future, sunscreen would be it."

// TestKnownSeal: P5.1, of RFC 8439.
func TestKnownSeal(t *testing.T) {
	key := [32]byte(probe.Hex("808182838485868788898a8b8c8d8e8f909192939495969798999a9b9c9d9e9f"))
	nonce := [12]byte(probe.Hex("070000004041424344454647"))
	b := aead.Seal(key, nonce, []byte(sunscreen), probe.Hex("50515253c0c1c2c3c4c5c6c7"))
	want := "d31a8d34648e60db7b86afbc53ef7ec2a4aded51296e08fea9e2b5a736ee62d63dbea45e8ca9671282fafb69da92728b1a71de0a9e060b2905d6a5b67ecd3b3692ddbd7f2d778b8c9803aee328091b58fab324e4fad675945585808b4831d7bc3ff4def08e4b7a9de576d26586cec64b61161ae10b594f09e26a7e902ecbd0600691"
	if hex.EncodeToString(b) != want {
		t.Errorf("%x", b)
	}
}

// plainSeal is the chapter's words, by the layers below.
func plainSeal(key [32]byte, nonce [12]byte, text, more []byte) []byte {
	sealed := chacha.Stream(key, 1, nonce, text)
	looked := append(bytes.Clone(more), make([]byte, (16-len(more)%16)%16)...)
	looked = append(looked, sealed...)
	looked = append(looked, make([]byte, (16-len(sealed)%16)%16)...)
	looked = binary.LittleEndian.AppendUint64(looked, uint64(len(more)))
	looked = binary.LittleEndian.AppendUint64(looked, uint64(len(sealed)))
	block := chacha.Block(key, 0, nonce)
	tag := poly.Tag([32]byte(block[:32]), looked)
	return append(sealed, tag[:]...)
}

// TestSealOfEachLength: P5.1 and P5.2, of lengths around multiples of 16 and of 64.
func TestSealOfEachLength(t *testing.T) {
	lengths := []int{0, 1, 2, 15, 16, 17, 31, 32, 33, 63, 64, 65, 128, 255, 256, 257, 300, 1000}
	for _, n := range lengths {
		for _, k := range lengths {
			key, nonce := probe.Array(n), [12]byte(probe.Bytes(12, k))
			text, more := probe.Bytes(n, 1), probe.Bytes(k, 2)
			b := aead.Seal(key, nonce, text, more)
			if len(b) != n+16 || !bytes.Equal(b, plainSeal(key, nonce, text, more)) {
				t.Errorf("%d bytes and %d more: %x", n, k, b)
			}
			if back, e := aead.Open(key, nonce, b, more); !bytes.Equal(back, text) || e != api.OK {
				t.Errorf("%d bytes and %d more are opened to %x, %d", n, k, back, e)
			}
		}
	}
}

// TestOpenRefusesOthers: P5.1; each bit of all that is handed in is looked at.
func TestOpenRefusesOthers(t *testing.T) {
	for _, n := range []int{0, 1, 16, 40} {
		key, nonce := probe.Array(1), [12]byte(probe.Bytes(12, 2))
		text, more := probe.Bytes(n, 3), probe.Bytes(n, 4)
		b := aead.Seal(key, nonce, text, more)
		for _, part := range [][]byte{key[:], nonce[:], b, more} {
			for i := range 8 * len(part) {
				part[i/8] ^= 1 << (i % 8)
				if back, e := aead.Open(key, nonce, b, more); len(back) != 0 || e != api.ErrOpen {
					t.Errorf("%d bytes, a bit of %d bytes: %x %d", n, len(part), back, e)
				}
				part[i/8] ^= 1 << (i % 8)
			}
		}
		for name, c := range map[string]struct{ b, more []byte }{
			"a byte more behind":        {append(bytes.Clone(b), 0), more},
			"a byte more ahead":         {append([]byte{0}, b...), more},
			"noughts more to look at":   {b, append(bytes.Clone(more), 0)},
			"the text as what's looked": {b, text},
		} {
			if n == 0 && name == "the text as what's looked" {
				continue
			}
			if back, e := aead.Open(key, nonce, c.b, c.more); len(back) != 0 || e != api.ErrOpen {
				t.Errorf("%d bytes, %s: %x %d", n, name, back, e)
			}
		}
		if n > 0 {
			if back, e := aead.Open(key, nonce, b[1:], more); len(back) != 0 || e != api.ErrOpen {
				t.Errorf("%d bytes, without the first: %x %d", n, back, e)
			}
		}
	}
}

// TestOpenOfTooFew: P5.1; 15 bytes are too few, 16 aren't.
func TestOpenOfTooFew(t *testing.T) {
	tag := aead.Seal([32]byte{1}, [12]byte{2}, nil, nil)
	if len(tag) != 16 {
		t.Fatalf("%d bytes of no text", len(tag))
	}
	for n := range 16 {
		for _, b := range [][]byte{tag[:n], make([]byte, n)} {
			if back, e := aead.Open([32]byte{1}, [12]byte{2}, b, nil); len(back) != 0 || e != api.ErrShort {
				t.Errorf("%d bytes: %x %d", n, back, e)
			}
		}
	}
	if back, e := aead.Open([32]byte{1}, [12]byte{2}, nil, nil); len(back) != 0 || e != api.ErrShort {
		t.Errorf("nil: %x %d", back, e)
	}
	if back, e := aead.Open([32]byte{1}, [12]byte{2}, tag, []byte{}); len(back) != 0 || e != api.OK {
		t.Errorf("the tag of no text: %x %d", back, e)
	}
	if back, e := aead.Open([32]byte{1}, [12]byte{2}, make([]byte, 16), nil); len(back) != 0 || e != api.ErrOpen {
		t.Errorf("16 noughts: %x %d", back, e)
	}
}

// TestMemory: P5.3.
func TestMemory(t *testing.T) {
	for _, n := range []int{0, 1, 16, 50} {
		key, nonce := probe.Array(1), [12]byte{2}
		text, more := probe.Lend(probe.Bytes(n, 1)), probe.Lend(probe.Bytes(n, 2))
		first := aead.Seal(key, nonce, text.Bytes(), more.Bytes())
		second := probe.Lend(aead.Seal(key, nonce, text.Bytes(), more.Bytes()))
		probe.Spoil(first)
		back, e := aead.Open(key, nonce, second.Bytes(), more.Bytes())
		again, _ := aead.Open(key, nonce, second.Bytes(), more.Bytes())
		if e != api.OK || !bytes.Equal(back, text.Bytes()) {
			t.Fatalf("%d bytes are opened to %x, %d", n, back, e)
		}
		probe.Spoil(back)
		if !text.Kept() || !more.Kept() || !second.Kept() {
			t.Errorf("%d bytes: what was handed in was changed", n)
		}
		want := bytes.Clone(text.Bytes())
		text.Spoil()
		second.Spoil()
		if !bytes.Equal(again, want) {
			t.Errorf("%d bytes: an answer shares memory", n)
		}
	}
}
