package curve_test

import (
	"bytes"
	"crypto/ecdh"
	"encoding/hex"
	"testing"

	"relay/curve"
	"relay/probe"
)

func fromHex(s string) [32]byte { return [32]byte(probe.Hex(s)) }

// TestKnownShared: P6.1, of RFC 7748.
func TestKnownShared(t *testing.T) {
	for _, c := range []struct{ secret, public, want string }{
		{"a546e36bf0527c9d3b16154b82465edd62144c0ac1fc5a18506a2244ba449ac4",
			"e6db6867583030db3594c1a424b15f7c726624ec26b3353b10a903a6d0ab1c4c",
			"c3da55379de9c6908e94ea4df28d084f32eccf03491c71f754b4075577a28552"},
		{"4b66e9d4d1b4673c5ad22691957d6af5c11b6421e0ea01d42ca4169e7918ba0d",
			"e5210f12786811d3f4b7959d0538ae2c31dbe7106fc03c3efc4cd549c715a493",
			"95cbde9476e8907d7aade45cb4b873f88b595a68799fa152e6f8f7647aac7957"},
	} {
		if s, ok := curve.Shared(fromHex(c.secret), fromHex(c.public)); hex.EncodeToString(s[:]) != c.want || !ok {
			t.Errorf("%s: %x %v", c.secret, s, ok)
		}
	}
}

// TestManyTimes: P6.1, of RFC 7748: what is shared is the next secret, the secret the next public.
func TestManyTimes(t *testing.T) {
	secret, public := [32]byte{9}, [32]byte{9}
	for i := 1; i <= 1000; i++ {
		next, ok := curve.Shared(secret, public)
		if !ok {
			t.Fatalf("nought at %d", i)
		}
		secret, public = next, secret
		if i == 1 && secret != fromHex("422c8e7a6227d7bca1350b3e2bb7279f7897b87bb6854b783c60e80311ae3079") {
			t.Errorf("once: %x", secret)
		}
	}
	if secret != fromHex("684cf59ba83309552800ef566f2f4d3c1c3887c49360e3875f2eb94d99532c51") {
		t.Errorf("1000 times: %x", secret)
	}
}

// TestKnownPublics: P6.1, of RFC 7748.
func TestKnownPublics(t *testing.T) {
	a := fromHex("77076d0a7318a57d3c16c17251b26645df4c2f87ebc0992ab177fba51db92c2a")
	b := fromHex("5dab087e624a8a4b79e17f8b83800ee66f3bb1292618b6fd1c2f8b27ff88e0eb")
	if p := curve.Public(a); p != fromHex("8520f0098930a754748b7ddcb43ef75a0dbf3a0d26381af4eba4a98eaa9b4e6a") {
		t.Errorf("%x", p)
	}
	if p := curve.Public(b); p != fromHex("de9edb7d7b7dc1b4d35b61c2ece435373f8343c85b78674dadfc7e146f882b4f") {
		t.Errorf("%x", p)
	}
	s, ok := curve.Shared(a, curve.Public(b))
	if s != fromHex("4a5d9d5ba4ce2de1728e3bf480350f25e07e21c947d19e3376f09b3c1e161742") || !ok {
		t.Errorf("%x %v", s, ok)
	}
}

// agrees holds Shared against another implementation of RFC 7748, which tells an error of noughts.
func agrees(t *testing.T, secret, public [32]byte) {
	t.Helper()
	key, err := ecdh.X25519().NewPrivateKey(secret[:])
	if err != nil {
		t.Fatal(err)
	}
	other, err := ecdh.X25519().NewPublicKey(public[:])
	if err != nil {
		t.Fatal(err)
	}
	want, err := key.ECDH(other)
	s, ok := curve.Shared(secret, public)
	if ok != (err == nil) || ok && !bytes.Equal(s[:], want) || !ok && s != [32]byte{} {
		t.Errorf("secret %x, public %x: %x %v, want %x", secret, public, s, ok, want)
	}
}

// TestAnySecretAndPublic: P6.1.
func TestAnySecretAndPublic(t *testing.T) {
	high := [32]byte(bytes.Repeat([]byte{255}, 32))
	secrets := [][32]byte{{}, {0: 1}, {31: 255}, high, fromHex("5555555555555555555555555555555555555555555555555555555555555555")}
	for i := range 20 {
		secrets = append(secrets, probe.Array(i))
	}
	for i, secret := range secrets {
		agrees(t, secret, probe.Array(100+i))
		agrees(t, secret, high)
		public := curve.Public(secret)
		if s, ok := curve.Shared(secret, [32]byte{9}); s != public || !ok {
			t.Errorf("Public of %x isn't Shared with 9", secret)
		}
	}
}

// nearModulus is p and n more (or less, if n is below 0).
func nearModulus(n int) [32]byte {
	out := [32]byte(bytes.Repeat([]byte{255}, 32))
	out[0], out[31] = byte(0xed+n), 0x7f
	return out
}

// TestPublicsAtTheEdges: P6.1; numbers from p on are taken modulo p, the highest bit isn't looked at.
func TestPublicsAtTheEdges(t *testing.T) {
	secret := probe.Array(1)
	for n := -40; n < 19; n++ {
		public := nearModulus(n)
		agrees(t, secret, public)
		if n >= 0 {
			same, ok := curve.Shared(secret, [32]byte{byte(n)})
			if s, also := curve.Shared(secret, public); s != same || also != ok {
				t.Errorf("p and %d isn't %d: %x", n, n, s)
			}
		}
		public[31] |= 0x80
		agrees(t, secret, public)
	}
	for n := range 40 {
		agrees(t, secret, [32]byte{byte(n)})
		agrees(t, secret, [32]byte{0: byte(n), 31: 0x80})
	}
	for bit := range 256 {
		var public [32]byte
		public[bit/8] = 1 << (bit % 8)
		agrees(t, secret, public)
	}
}

// TestNought: P6.1, of each public whose multiples by eight are none.
func TestNought(t *testing.T) {
	for _, public := range [][32]byte{
		{},
		{1},
		{31: 0x80},
		{0: 1, 31: 0x80},
		nearModulus(-1),
		nearModulus(0),
		nearModulus(1),
		fromHex("e0eb7a7c3b41b8ae1656e3faf19fc46ada098deb9c32b1fd866205165f49b800"),
		fromHex("5f9c95bca3508c24b1d0b1559c83ef5b04445cc4581c8e86d8224eddd09f1157"),
	} {
		for i := range 5 {
			if s, ok := curve.Shared(probe.Array(i), public); s != [32]byte{} || ok {
				t.Errorf("public %x: %x %v", public, s, ok)
			}
		}
	}
	if _, ok := curve.Shared(probe.Array(1), [32]byte{2}); !ok {
		t.Error("2 is told to be nought")
	}
}

// TestSecretBits: P6.1; just the bits of a secret that are always the same aren't looked at.
func TestSecretBits(t *testing.T) {
	secret := probe.Array(1)
	public := curve.Public(secret)
	for bit := range 256 {
		other := secret
		other[bit/8] ^= 1 << (bit % 8)
		fixed := bit < 3 || bit > 253
		if (curve.Public(other) == public) != fixed {
			t.Errorf("bit %d: not looked at should be %v", bit, fixed)
		}
	}
}

// TestBothShareTheSame: P6.2.
func TestBothShareTheSame(t *testing.T) {
	for i := range 60 {
		a, b := probe.Array(2*i), probe.Array(2*i+1)
		mine, ok := curve.Shared(a, curve.Public(b))
		theirs, also := curve.Shared(b, curve.Public(a))
		if mine != theirs || !ok || !also {
			t.Errorf("%d: %x %v, %x %v", i, mine, ok, theirs, also)
		}
	}
}
