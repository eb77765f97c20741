package record_test

import (
	"bytes"
	reference "crypto/hkdf"
	"crypto/sha256"
	"testing"

	"relay/api"
	"relay/probe"
	"relay/record"
)

// labelled is hkdf's label of a name of at most 12 signs without a context, by another library.
func labelled(t *testing.T, secret [32]byte, name string, n int) []byte {
	t.Helper()
	info := string([]byte{0, byte(n), byte(6 + len(name))}) + "tls13 " + name + "\x00"
	b, err := reference.Expand(sha256.New, secret[:], info, n)
	if err != nil {
		t.Fatal(err)
	}
	return b
}

// TestKnownKeys: P12.1; the nonces' beginnings are of RFC 8448 (3).
func TestKnownKeys(t *testing.T) {
	for _, c := range []struct{ secret, iv string }{
		{"b67b7d690cc16c4e75e54213cb2d37b4e9c912bcded9105d42befd59d391ad38", "5d313eb2671276ee13000b30"},
		{"b3eddb126e067f35a780b3abf45e2d8f3b1a950738f52e9600746a0e27a55a21", "5bd3c71b836e0b76bb73265f"},
	} {
		if k := record.Derive([32]byte(probe.Hex(c.secret))); !bytes.Equal(k.Iv[:], probe.Hex(c.iv)) {
			t.Errorf("%s: %x", c.secret, k.Iv)
		}
	}
	secret := [32]byte(probe.Hex("000102030405060708090a0b0c0d0e0f101112131415161718191a1b1c1d1e1f"))
	k, next := record.Derive(secret), record.Next(secret)
	if !bytes.Equal(k.Key[:], probe.Hex("2ffbc449e87844051c7768f61ffd8ad070830f01ec2c520ef65f08e8296dffa0")) ||
		!bytes.Equal(k.Iv[:], probe.Hex("2f41c846a431a163814bcd71")) {
		t.Errorf("%x", k)
	}
	if !bytes.Equal(next[:], probe.Hex("2cecd0a17506ef5fa73edc062d6e7b5397cf074ec1b4d8f99a120772932f0b45")) {
		t.Errorf("%x", next)
	}
}

// TestDeriveAndNext: P12.1, against another library.
func TestDeriveAndNext(t *testing.T) {
	for seed := range 50 {
		secret := probe.Array(seed)
		if seed == 0 {
			secret = [32]byte{}
		}
		k, next := record.Derive(secret), record.Next(secret)
		if !bytes.Equal(k.Key[:], labelled(t, secret, "key", 32)) || !bytes.Equal(k.Iv[:], labelled(t, secret, "iv", 12)) {
			t.Errorf("keys of %x: %x", secret, k)
		}
		if !bytes.Equal(next[:], labelled(t, secret, "traffic upd", 32)) {
			t.Errorf("behind %x: %x", secret, next)
		}
	}
}

// TestNonce: P12.1; each bit of a number bends one bit of the last eight bytes.
func TestNonce(t *testing.T) {
	for seed := range 20 {
		k := keysOf(seed)
		if n := record.Nonce(k, 0); n != k.Iv {
			t.Errorf("of 0: %x, not %x", n, k.Iv)
		}
		for bit := range 64 {
			want := k.Iv
			want[11-bit/8] ^= 1 << (bit % 8)
			if n := record.Nonce(k, 1<<bit); n != want {
				t.Errorf("of bit %d: %x, not %x", bit, n, want)
			}
		}
	}
	n := record.Nonce(record.Keys{Iv: [12]byte{9, 8, 7, 6}}, 0x0102030405060708)
	if n != [12]byte{9, 8, 7, 6, 1, 2, 3, 4, 5, 6, 7, 8} {
		t.Errorf("%x", n)
	}
	n = record.Nonce(record.Keys{Iv: [12]byte(bytes.Repeat([]byte{0xff}, 12))}, 1<<64-1)
	if n != [12]byte{0xff, 0xff, 0xff, 0xff} {
		t.Errorf("%x", n)
	}
	if record.Nonce(record.Keys{Key: probe.Array(1)}, 5) != record.Nonce(record.Keys{}, 5) {
		t.Error("a nonce hangs on the key")
	}
}

// TestKnownConnection: P12.1 and P12.2; what another program's client sent in a connection of this suite, with a key update in it.
func TestKnownConnection(t *testing.T) {
	first := [32]byte(probe.Hex("6f94596903670f9e957307b5acd0e45951d5810a945ea77ffdee3701d3b72013"))
	second := [32]byte(probe.Hex("44e0be6db808b4f0a6d25a73c71463ba38ea0c5e88c336f2053e6fa21a35d11d"))
	if next := record.Next(first); next != second {
		t.Errorf("the next secret: %x", next)
	}
	for _, c := range []struct {
		secret [32]byte
		seq    uint64
		kind   int
		text   string
		b      string
	}{
		{first, 0, 23, "one\n", "1703030015824d26fb5291ac5ca6576db6b0acceebe6f6be45e5"},
		{first, 1, 23, "two\n", "170303001528d142d91d1dfee47d06da5803841a5fe8f0b721f5"},
		{first, 2, 22, "\x18\x00\x00\x01\x00", "17030300165bf41f21c289fb305bbd235525a9c0d5bccaadc0f823"},
		{second, 0, 23, "three\n", "1703030017d28c63b21a2bd5c12042d1d37af76f62199caf70f3059b"},
		{second, 1, 21, "\x01\x00", "17030300138f1097e20fddad708ea96253cf0d473744037b"},
	} {
		k, want := record.Derive(c.secret), probe.Hex(c.b)
		opens(t, "what was sent", k, c.seq, want[5:], c.kind, []byte(c.text), api.OK)
		if b, e := record.Seal(k, c.seq, c.kind, []byte(c.text), 0); !bytes.Equal(b, want) || e != api.OK {
			t.Errorf("%q is sealed to %x, %d", c.text, b, e)
		}
	}
}
