package sha_test

import (
	"bytes"
	"crypto/hmac"
	"crypto/sha256"
	"encoding/hex"
	"strings"
	"testing"

	"relay/probe"
	"relay/sha"
)

// TestKnownSums: P1.1, of the standard's own texts.
func TestKnownSums(t *testing.T) {
	for _, c := range []struct{ text, want string }{
		{"", "e3b0c44298fc1c149afbf4c8996fb92427ae41e4649b934ca495991b7852b855"},
		{"abc", "ba7816bf8f01cfea414140de5dae2223b00361a396177a9cb410ff61f20015ad"},
		{"abcdbcdecdefdefgefghfghighijhijkijkljklmklmnlmnomnopnopq", "248d6a61d20638b8e5c026930c3e6039a33ce45964ff2167f6ecedd419db06c1"},
		{"abcdefghbcdefghicdefghijdefghijkefghijklfghijklmghijklmnhijklmnoijklmnopjklmnopqklmnopqrlmnopqrsmnopqrstnopqrstu", "cf5b16a778af8380036ce59e7b0492370b249b11e8f07a51afac45037afee9d1"},
		{strings.Repeat("a", 1000000), "cdc76e5c9914fb9281a1c7e284d73e67f1809a48a497200e046d39ccc7112cd0"},
	} {
		if s := sha.Sum([]byte(c.text)); hex.EncodeToString(s[:]) != c.want {
			t.Errorf("%.20q: %x", c.text, s)
		}
	}
}

// TestSumOfEachLength: P1.1; 55 and 56, 63 and 64, 119 and 120 are edges of the last blocks.
func TestSumOfEachLength(t *testing.T) {
	for n := range 400 {
		b := probe.Bytes(n, n)
		if s := sha.Sum(b); s != sha256.Sum256(b) {
			t.Errorf("%d bytes: %x", n, s)
		}
	}
}

// TestKnownMacs: P1.1, of RFC 4231.
func TestKnownMacs(t *testing.T) {
	long := strings.Repeat("\xaa", 131)
	for _, c := range []struct{ key, text, want string }{
		{strings.Repeat("\x0b", 20), "Hi There", "b0344c61d8db38535ca8afceaf0bf12b881dc200c9833da726e9376c2e32cff7"},
		{"Jefe", "what do ya want for nothing?", "5bdcc146bf60754e6a042426089575c75a003f089d2739839dec58b964ec3843"},
		{strings.Repeat("\xaa", 20), strings.Repeat("\xdd", 50), "773ea91e36800e46854db8ebd09181a72959098b3ef8c122d9635514ced565fe"},
		{long, "Test Using Larger Than Block-Size Key - Hash Key First", "60e431591ee0b67f0d8a26aacbf5b77f8e0bc6213728c5140546040f0ee37f54"},
		{long, "This is a test using a larger than block-size key and a larger than block-size data. The key needs to be hashed before being used by the HMAC algorithm.", "9b09ffa71b942fcb27635fbcd5b0e944bfdc63644f0713938a7f51535c3a35e2"},
	} {
		if m := sha.Mac([]byte(c.key), []byte(c.text)); hex.EncodeToString(m[:]) != c.want {
			t.Errorf("%.20q %.20q: %x", c.key, c.text, m)
		}
	}
}

// TestMacOfEachLength: P1.1; a key of 64 bytes stays, one of 65 is its sum.
func TestMacOfEachLength(t *testing.T) {
	for n := range 140 {
		for _, size := range []int{0, 1, 55, 56, 63, 64, 65, 119, 120, 200} {
			key, b := probe.Bytes(n, n), probe.Bytes(size, n+1)
			want := hmac.New(sha256.New, key)
			want.Write(b)
			if m := sha.Mac(key, b); !bytes.Equal(m[:], want.Sum(nil)) {
				t.Errorf("key of %d bytes, text of %d: %x", n, size, m)
			}
		}
	}
	long := probe.Bytes(65, 1)
	sum := sha.Sum(long)
	if sha.Mac(long, nil) != sha.Mac(sum[:], nil) {
		t.Error("a key of 65 bytes isn't its sum")
	}
}

// TestSame: P1.1.
func TestSame(t *testing.T) {
	for n := range 70 {
		a, b := probe.Bytes(n, 1), probe.Bytes(n, 1)
		if !sha.Same(a, b) {
			t.Errorf("%d bytes aren't the same", n)
		}
		if sha.Same(a, append(b, 0)) || sha.Same(append(a, 0), b) {
			t.Errorf("%d bytes and one more are the same", n)
		}
		for i := range 8 * n {
			b[i/8] ^= 1 << (i % 8)
			if sha.Same(a, b) {
				t.Errorf("%d bytes: bit %d isn't looked at", n, i)
			}
			b[i/8] ^= 1 << (i % 8)
		}
	}
	if !sha.Same(nil, []byte{}) || !sha.Same([]byte{}, nil) || !sha.Same(nil, nil) {
		t.Error("nil and no bytes aren't one")
	}
	if sha.Same([]byte{1, 2}, []byte{2, 1}) || sha.Same([]byte{1, 1}, []byte{2, 2}) {
		t.Error("differences make up for each other")
	}
}

// TestLentBytesStay: P1.2.
func TestLentBytesStay(t *testing.T) {
	for _, n := range []int{0, 1, 55, 56, 63, 64, 65, 200} {
		key, b := probe.Lend(probe.Bytes(n, 1)), probe.Lend(probe.Bytes(n, 2))
		sha.Sum(b.Bytes())
		sha.Mac(key.Bytes(), b.Bytes())
		sha.Same(key.Bytes(), b.Bytes())
		if !key.Kept() || !b.Kept() {
			t.Errorf("%d bytes that were handed in were changed", n)
		}
		key.Spoil()
		b.Spoil()
		want := hmac.New(sha256.New, key.Bytes())
		want.Write(b.Bytes())
		m := sha.Mac(key.Bytes(), b.Bytes())
		if sha.Sum(b.Bytes()) != sha256.Sum256(b.Bytes()) || !bytes.Equal(m[:], want.Sum(nil)) {
			t.Errorf("of %d bytes something was kept from the call ahead", n)
		}
	}
}
