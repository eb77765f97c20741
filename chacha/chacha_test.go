package chacha_test

import (
	"bytes"
	"encoding/hex"
	"math"
	"testing"

	"relay/chacha"
	"relay/probe"
)

const sunscreen = "Ladies and Gentlemen of the class of '99: If I could offer you only one tip for the future, sunscreen would be it."

// counted is key bytes 0 to 31.
func counted() [32]byte {
	var key [32]byte
	for i := range key {
		key[i] = byte(i)
	}
	return key
}

// TestKnownBlocks: P3.1, of RFC 8439.
func TestKnownBlocks(t *testing.T) {
	for _, c := range []struct {
		key   [32]byte
		count uint32
		nonce string
		want  string
	}{
		{counted(), 1, "000000090000004a00000000", "10f1e7e4d13b5915500fdd1fa32071c4c7d1f4c733c068030422aa9ac3d46c4ed2826446079faa0914c2d705d98b02a2b5129cd1de164eb9cbd083e8a2503c4e"},
		{[32]byte{}, 0, "000000000000000000000000", "76b8e0ada0f13d90405d6ae55386bd28bdd219b8a08ded1aa836efcc8b770dc7da41597c5157488d7724e03fb8d84a376a43b8f41518a11cc387b669b2ee6586"},
		{[32]byte{}, 1, "000000000000000000000000", "9f07e7be5551387a98ba977c732d080dcb0f29a048e3656912c6533e32ee7aed29b721769ce64e43d57133b074d839d531ed1f28510afb45ace10a1f4b794d6f"},
		{[32]byte{31: 1}, 1, "000000000000000000000000", "3aeb5224ecf849929b9d828db1ced4dd832025e8018b8160b82284f3c949aa5a8eca00bbb4a73bdad192b5c42f73f2fd4e273644c8b36125a64addeb006c13a0"},
		{[32]byte{1: 0xff}, 2, "000000000000000000000000", "72d54dfbf12ec44b362692df94137f328fea8da73990265ec1bbbea1ae9af0ca13b25aa26cb4a648cb9b9d1be65b2c0924a66c54d545ec1b7374f4872e99f096"},
		{[32]byte{}, 0, "000000000000000000000002", "c2c64d378cd536374ae204b9ef933fcd1a8b2288b3dfa49672ab765b54ee27c78a970e0e955c14f3a88e741b97c286f75f8fc299e8148362fa198a39531bed6d"},
	} {
		if b := chacha.Block(c.key, c.count, [12]byte(probe.Hex(c.nonce))); hex.EncodeToString(b[:]) != c.want {
			t.Errorf("%x %d %s: %x", c.key, c.count, c.nonce, b)
		}
	}
}

// TestKnownStream: P3.1, of RFC 8439.
func TestKnownStream(t *testing.T) {
	b := chacha.Stream(counted(), 1, [12]byte(probe.Hex("000000000000004a00000000")), []byte(sunscreen))
	want := "6e2e359a2568f98041ba0728dd0d6981e97e7aec1d4360c20a27afccfd9fae0bf91b65c5524733ab8f593dabcd62b3571639d624e65152ab8f530c359f0861d807ca0dbf500d6a6156a38e088a22b65e52bc514d16ccf806818ce91ab77937365af90bbf74a35be6b40b8eedf2785e42874d"
	if hex.EncodeToString(b) != want {
		t.Errorf("%x", b)
	}
}

// TestStreamIsBlocks: P3.1, of lengths around blocks' ends; behind the greatest count 0 comes.
func TestStreamIsBlocks(t *testing.T) {
	key, nonce := probe.Array(1), [12]byte(probe.Bytes(12, 2))
	for _, n := range []int{0, 1, 63, 64, 65, 127, 128, 129, 300} {
		for _, first := range []uint32{0, 1, 1 << 31, math.MaxUint32 - 1, math.MaxUint32} {
			b := probe.Bytes(n, 3)
			out := chacha.Stream(key, first, nonce, b)
			if len(out) != n {
				t.Fatalf("%d bytes of %d", len(out), n)
			}
			for i := range out {
				block := chacha.Block(key, first+uint32(i/64), nonce)
				if out[i] != b[i]^block[i%64] {
					t.Errorf("count %d, %d bytes: byte %d", first, n, i)
				}
			}
		}
	}
}

// TestAllIsMixedIn: P3.1; each bit of key, count and nonce makes another block.
func TestAllIsMixedIn(t *testing.T) {
	seen := map[[64]byte]bool{chacha.Block([32]byte{}, 0, [12]byte{}): true}
	for i := range 256 {
		var key [32]byte
		key[i/8] = 1 << (i % 8)
		seen[chacha.Block(key, 0, [12]byte{})] = true
	}
	for i := range 32 {
		seen[chacha.Block([32]byte{}, 1<<i, [12]byte{})] = true
	}
	for i := range 96 {
		var nonce [12]byte
		nonce[i/8] = 1 << (i % 8)
		seen[chacha.Block([32]byte{}, 0, nonce)] = true
	}
	if len(seen) != 1+256+32+96 {
		t.Errorf("%d blocks", len(seen))
	}
}

// TestStreamOfStream: P3.2.
func TestStreamOfStream(t *testing.T) {
	key, nonce := probe.Array(4), [12]byte(probe.Bytes(12, 5))
	for n := range 200 {
		b := probe.Bytes(n, n)
		for _, count := range []uint32{0, 7, math.MaxUint32} {
			once := chacha.Stream(key, count, nonce, b)
			if n > 16 && bytes.Equal(once, b) {
				t.Errorf("%d bytes stay", n)
			}
			if !bytes.Equal(chacha.Stream(key, count, nonce, once), b) {
				t.Errorf("%d bytes, count %d: not what it was", n, count)
			}
		}
	}
}

// TestMemory: P3.3.
func TestMemory(t *testing.T) {
	for _, n := range []int{0, 1, 64, 100} {
		b := probe.Lend(probe.Bytes(n, 1))
		first := chacha.Stream([32]byte{1}, 2, [12]byte{3}, b.Bytes())
		second := chacha.Stream([32]byte{1}, 2, [12]byte{3}, b.Bytes())
		want := bytes.Clone(second)
		probe.Spoil(first)
		if !b.Kept() {
			t.Errorf("%d bytes: what was handed in was changed", n)
		}
		b.Spoil()
		if !bytes.Equal(second, want) {
			t.Errorf("%d bytes: an answer shares memory", n)
		}
	}
}
