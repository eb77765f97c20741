package hkdf_test

import (
	"bytes"
	reference "crypto/hkdf"
	"crypto/sha256"
	"encoding/hex"
	"math"
	"strings"
	"testing"

	"relay/api"
	"relay/hkdf"
	"relay/probe"
	"relay/sha"
)

const maxOut = 8160

// run is the bytes from first up to last.
func run(first, last int) string {
	b := make([]byte, 0, last-first+1)
	for i := first; i <= last; i++ {
		b = append(b, byte(i))
	}
	return string(b)
}

// TestKnownKeys: P2.1, of RFC 5869.
func TestKnownKeys(t *testing.T) {
	for _, c := range []struct{ secret, salt, info, key, out string }{
		{strings.Repeat("\x0b", 22), run(0, 12), run(0xf0, 0xf9),
			"077709362c2e32df0ddc3f0dc47bba6390b6c73bb50f9c3122ec844ad7c2b3e5",
			"3cb25f25faacd57a90434f64d0362f2a2d2d0a90cf1a5a4c5db02d56ecc4c5bf34007208d5b887185865"},
		{run(0, 0x4f), run(0x60, 0xaf), run(0xb0, 0xff),
			"06a6b88c5853361a06104c9ceb35b45cef760014904671014a193f40c15fc244",
			"b11e398dc80327a1c8e7f78c596a49344f012eda2d4efad8a050cc4c19afa97c59045a99cac7827271cb41c65e590e09da3275600c2f09b8367793a9aca3db71cc30c58179ec3e87c14c01d5c1f3434f1d87"},
		{strings.Repeat("\x0b", 22), "", "",
			"19ef24a32c717b167f33a91d6f648bdf96596776afdb6377ac434c1c293ccb04",
			"8da4e775a563c18f715f802a063c5a31b8a11f5c5ee1879ec3454e5f3c738d2d9d201395faa4b61a96c8"},
	} {
		key := hkdf.Extract([]byte(c.salt), []byte(c.secret))
		if hex.EncodeToString(key[:]) != c.key {
			t.Errorf("Extract: %x", key)
		}
		b, e := hkdf.Expand(key, []byte(c.info), len(c.out)/2)
		if hex.EncodeToString(b) != c.out || e != api.OK {
			t.Errorf("Expand: %x %d", b, e)
		}
	}
}

// TestExtractIsMac: P2.1, of salts and secrets of any length.
func TestExtractIsMac(t *testing.T) {
	for _, n := range []int{0, 1, 32, 64, 65, 300} {
		for _, k := range []int{0, 1, 32, 64, 65, 300} {
			salt, secret := probe.Bytes(n, 1), probe.Bytes(k, 2)
			if hkdf.Extract(salt, secret) != sha.Mac(salt, secret) {
				t.Errorf("salt of %d bytes, secret of %d", n, k)
			}
		}
	}
}

// TestExpandOfEachLength: P2.1, up to the edge.
func TestExpandOfEachLength(t *testing.T) {
	key, info := probe.Array(1), probe.Bytes(70, 2)
	for _, n := range []int{0, 1, 31, 32, 33, 63, 64, 65, 100, 8127, 8128, 8129, 8159, maxOut} {
		want, err := reference.Expand(sha256.New, key[:], string(info), n)
		b, e := hkdf.Expand(key, info, n)
		if err != nil || e != api.OK || len(b) != n || !bytes.Equal(b, want) {
			t.Errorf("%d: %d bytes, %d, %v", n, len(b), e, err)
		}
	}
}

// TestExpandRefuses: P2.1, of counts beyond the edges.
func TestExpandRefuses(t *testing.T) {
	for _, n := range []int{-1, -32, math.MinInt, maxOut + 1, 8192, 1 << 16, 1<<16 + 32, 1 << 32, math.MaxInt} {
		if b, e := hkdf.Expand([32]byte{1}, []byte("info"), n); len(b) != 0 || e != api.ErrArg {
			t.Errorf("Expand %d: %d bytes, %d", n, len(b), e)
		}
		if b, e := hkdf.Label([32]byte{1}, "label", nil, n); len(b) != 0 || e != api.ErrArg {
			t.Errorf("Label %d: %d bytes, %d", n, len(b), e)
		}
	}
}

// TestKnownLabels: P2.1, of RFC 8448.
func TestKnownLabels(t *testing.T) {
	none := sha.Sum(nil)
	early := hkdf.Extract(nil, make([]byte, 32))
	if hex.EncodeToString(early[:]) != "33ad0a1c607ec03b09e6cd9893680ce210adf300aa1f2660e1b22e10f170f92a" {
		t.Errorf("early %x", early)
	}
	b, e := hkdf.Label(early, "derived", none[:], 32)
	if hex.EncodeToString(b) != "6f2615a108c702c5678f54fc9dbab69716c076189c48250cebeac3576c3611ba" || e != api.OK {
		t.Errorf("derived %x %d", b, e)
	}
	hand := [32]byte(probe.Hex("b67b7d690cc16c4e75e54213cb2d37b4e9c912bcded9105d42befd59d391ad38"))
	b, e = hkdf.Label(hand, "key", nil, 16)
	if hex.EncodeToString(b) != "3fce516009c21727d0f2e4e86ee403bc" || e != api.OK {
		t.Errorf("key %x %d", b, e)
	}
	b, e = hkdf.Label(hand, "iv", nil, 12)
	if hex.EncodeToString(b) != "5d313eb2671276ee13000b30" || e != api.OK {
		t.Errorf("iv %x %d", b, e)
	}
}

// TestLabelIsExpand: P2.1, of each edge of its counts.
func TestLabelIsExpand(t *testing.T) {
	key := probe.Array(1)
	for _, n := range []int{0, 1, 32, 255, 256, 258, maxOut} {
		for _, size := range []int{1, 2, 248, 249} {
			for _, more := range []int{0, 1, 32, 254, 255} {
				label, context := probe.Bytes(size, 3), probe.Bytes(more, 4)
				info := []byte{byte(n / 256), byte(n % 256), byte(6 + size)}
				info = append(info, "tls13 "...)
				info = append(append(info, label...), byte(more))
				want, _ := hkdf.Expand(key, append(info, context...), n)
				b, e := hkdf.Label(key, string(label), context, n)
				if !bytes.Equal(b, want) || len(b) != n || e != api.OK {
					t.Errorf("%d bytes, label of %d, context of %d: %d", n, size, more, e)
				}
			}
		}
	}
}

// TestLabelRefuses: P2.1, of a label or a context beyond the edges.
func TestLabelRefuses(t *testing.T) {
	for _, c := range []struct{ label, context int }{
		{0, 0}, {0, 32}, {250, 0}, {256, 0}, {257, 0}, {1000, 0}, {5, 256}, {5, 257}, {5, 1000}, {0, 256}, {250, 256},
	} {
		b, e := hkdf.Label([32]byte{1}, strings.Repeat("x", c.label), make([]byte, c.context), 32)
		if len(b) != 0 || e != api.ErrArg {
			t.Errorf("label of %d, context of %d: %x %d", c.label, c.context, b, e)
		}
	}
}

// TestFewerBytesAreTheFirst: P2.2.
func TestFewerBytesAreTheFirst(t *testing.T) {
	key, info := probe.Array(5), []byte("info")
	all, _ := hkdf.Expand(key, info, maxOut)
	if len(all) != maxOut {
		t.Fatal(len(all))
	}
	for n := 0; n <= maxOut; n += 1 + n/9 {
		if b, e := hkdf.Expand(key, info, n); !bytes.Equal(b, all[:n]) || e != api.OK {
			t.Errorf("%d: %d", n, e)
		}
	}
}

// TestMemory: P2.3.
func TestMemory(t *testing.T) {
	key := probe.Array(6)
	salt, info := probe.Lend(probe.Bytes(40, 1)), probe.Lend(probe.Bytes(50, 2))
	hkdf.Extract(salt.Bytes(), info.Bytes())
	first, _ := hkdf.Expand(key, info.Bytes(), 70)
	second, _ := hkdf.Expand(key, info.Bytes(), 70)
	third, _ := hkdf.Label(key, "label", info.Bytes(), 70)
	fourth, _ := hkdf.Label(key, "label", info.Bytes(), 70)
	if !salt.Kept() || !info.Kept() {
		t.Error("what was handed in was changed")
	}
	probe.Spoil(first)
	probe.Spoil(third)
	if !salt.Kept() || !info.Kept() {
		t.Error("an answer shares memory with what was handed in")
	}
	want, _ := hkdf.Expand(key, info.Bytes(), 70)
	named, _ := hkdf.Label(key, "label", info.Bytes(), 70)
	info.Spoil()
	if !bytes.Equal(second, want) || !bytes.Equal(fourth, named) {
		t.Error("an answer shares memory with another one, or with what was handed in")
	}
}
