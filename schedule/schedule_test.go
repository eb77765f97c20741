package schedule_test

import (
	"bytes"
	reference "crypto/hkdf"
	"crypto/hmac"
	"crypto/sha256"
	"strings"
	"testing"

	"relay/probe"
	"relay/schedule"
)

// key is 32 bytes in base 16.
func key(s string) [32]byte { return [32]byte(probe.Hex(s)) }

// extracted, mac and labelled are by another library.
func extracted(t *testing.T, salt, secret []byte) [32]byte {
	t.Helper()
	b, err := reference.Extract(sha256.New, secret, salt)
	if err != nil {
		t.Fatal(err)
	}
	return [32]byte(b)
}

func mac(key, b []byte) [32]byte {
	h := hmac.New(sha256.New, key)
	h.Write(b)
	return [32]byte(h.Sum(nil))
}

func labelled(t *testing.T, secret [32]byte, name string, context []byte) [32]byte {
	t.Helper()
	name = "tls13 " + name
	info := "\x00\x20" + string([]byte{byte(len(name))}) + name + string([]byte{byte(len(context))}) + string(context)
	b, err := reference.Expand(sha256.New, secret[:], info, 32)
	if err != nil {
		t.Fatal(err)
	}
	return [32]byte(b)
}

// nothing is the sum of no byte.
func nothing() []byte {
	sum := sha256.Sum256(nil)
	return sum[:]
}

// is holds a secret against another one.
func is(t *testing.T, what string, got, want [32]byte) {
	t.Helper()
	if got != want {
		t.Errorf("%s: %x, not %x", what, got, want)
	}
}

// TestKnownConnection: P15.1, of RFC 8448 (3).
func TestKnownConnection(t *testing.T) {
	s := schedule.Start(nil)
	is(t, "Early", s.Early, key("33ad0a1c607ec03b09e6cd9893680ce210adf300aa1f2660e1b22e10f170f92a"))
	s = schedule.Mix(s, key("8bd4054fb55b9d63fdfbacf9f04b9f0d35e6d63f537563efd46272900f89492d"))
	is(t, "Hand", s.Hand, key("1dc826e93606aa6fdc0aadc12f741b01046aa6b99f691ed221a9f0ca043fbeac"))
	hellos := key("860c06edc07858ee8e78f0e7428c58edd6b43f2ca3e6e95f02ed063cf0e1cad8")
	is(t, "c hs", schedule.Traffic(s.Hand, "c hs traffic", hellos), key("b3eddb126e067f35a780b3abf45e2d8f3b1a950738f52e9600746a0e27a55a21"))
	out := schedule.Traffic(s.Hand, "s hs traffic", hellos)
	is(t, "s hs", out, key("b67b7d690cc16c4e75e54213cb2d37b4e9c912bcded9105d42befd59d391ad38"))
	s = schedule.Finish(s)
	is(t, "Master", s.Master, key("18df06843d13a08bf2a449844c5f8a478001bc4d4c627984d5a41da8d0402919"))
	finished := key("9608102a0f1ccc6db6250b7b7e417b1a000eaada3daae4777a7686c9ff83df13")
	is(t, "c ap", schedule.Traffic(s.Master, "c ap traffic", finished), key("9e40646ce79a7f9dc05af8889bce6552875afa0b06df0087f792ebb7c17504a5"))
	is(t, "s ap", schedule.Traffic(s.Master, "s ap traffic", finished), key("a11af9f05531f856ad47116b45a950328204b4f44bfb6b3a4b4f1f3fcb631643"))
	all := key("209145a96ee8e2a122ff810047cc952684658d6049e86429426db87c54ad143d")
	is(t, "Resume", schedule.Resume(s.Master, all, []byte{0, 0}), key("4ecd0eb6ec3b4d87f5d6028f922ca4c5851a277fd41311c9e62d2c9492e1c4f3"))
}

// TestKnownSums: P15.1, of RFC 8448 (3 and 4): a server's Finished, and a ticket's binder.
func TestKnownSums(t *testing.T) {
	out := key("b67b7d690cc16c4e75e54213cb2d37b4e9c912bcded9105d42befd59d391ad38")
	sum := key("edb7725fa7a3473b031ec8ef65a2485493900138a2b91291407d7951a06110ed")
	is(t, "Verify", schedule.Verify(out, sum), key("9b9b141d906337fbd2cbdce71df4deda4ab42c309572cb7fffee5454b78f0718"))
	psk := probe.Hex("4ecd0eb6ec3b4d87f5d6028f922ca4c5851a277fd41311c9e62d2c9492e1c4f3")
	is(t, "Early", schedule.Start(psk).Early, key("9b2188e9b2fc6d64d71dc329900e20bb41915000f678aa839cbb797cb7d8332c"))
	sum = key("63224b2e4573f2d3454ca84b9d009a04f6be9e05711a8396473aefa01e924a14")
	is(t, "Binder", schedule.Binder(psk, sum), key("3add4fb2d8fdf822a0ca3cf7678ef5e88dae990141c5924d57bb6fa31b9e5f9d"))
}

// TestSecrets: P15.1, against another library; each step keeps what was there ahead.
func TestSecrets(t *testing.T) {
	noughts := make([]byte, 32)
	for seed, n := range []int{0, 1, 31, 32, 33, 64, 65, 300} {
		psk := probe.Bytes(n, seed)
		s := schedule.Start(psk)
		early := psk
		if n == 0 {
			early = noughts
		}
		want := schedule.Secrets{Early: extracted(t, noughts, early)}
		if s != want {
			t.Errorf("Start of %d bytes: %x", n, s)
		}
		shared, before := probe.Array(seed+100), schedule.Secrets{Early: s.Early, Hand: probe.Array(1), Master: probe.Array(2)}
		derived := labelled(t, s.Early, "derived", nothing())
		want = schedule.Secrets{Early: s.Early, Hand: extracted(t, derived[:], shared[:]), Master: before.Master}
		if got := schedule.Mix(before, shared); got != want {
			t.Errorf("Mix: %x, not %x", got, want)
		}
		derived = labelled(t, want.Hand, "derived", nothing())
		want.Master = extracted(t, derived[:], noughts)
		if got := schedule.Finish(schedule.Mix(s, shared)); got != want {
			t.Errorf("Finish: %x, not %x", got, want)
		}
	}
	if schedule.Start(noughts) != schedule.Start(nil) || schedule.Start([]byte{}) != schedule.Start(nil) {
		t.Error("no byte is another secret than noughts")
	}
	if schedule.Finish(schedule.Secrets{}).Early != [32]byte{} || schedule.Mix(schedule.Secrets{}, [32]byte{}).Master != [32]byte{} {
		t.Error("of noughts")
	}
}

// TestTraffic: P15.1, against another library, of names of each length; one that can't be gives noughts.
func TestTraffic(t *testing.T) {
	for n := range 300 {
		secret, sum, name := probe.Array(n), probe.Array(n+1), strings.Repeat("n", n)
		want := [32]byte{}
		if n >= 1 && n <= 249 {
			want = labelled(t, secret, name, sum[:])
		}
		is(t, "Traffic", schedule.Traffic(secret, name, sum), want)
	}
	is(t, "a name", schedule.Traffic(probe.Array(3), "c hs traffic", probe.Array(4)), labelled(t, probe.Array(3), "c hs traffic", bytes.Clone(probe.Bytes(32, 4))))
}

// TestVerifyAndBinder: P15.1, against another library.
func TestVerifyAndBinder(t *testing.T) {
	for seed := range 30 {
		secret, sum := probe.Array(seed), probe.Array(seed+50)
		finished := labelled(t, secret, "finished", nil)
		is(t, "Verify", schedule.Verify(secret, sum), mac(finished[:], sum[:]))
		psk := probe.Bytes(seed*3, seed)
		binder := labelled(t, schedule.Start(psk).Early, "res binder", nothing())
		finished = labelled(t, binder, "finished", nil)
		is(t, "Binder", schedule.Binder(psk, sum), mac(finished[:], sum[:]))
	}
}

// TestResume: P15.1, against another library; of a nonce at most 255 bytes count.
func TestResume(t *testing.T) {
	for _, n := range []int{0, 1, 8, 32, 254, 255, 256, 257, 1000} {
		master, sum, nonce := probe.Array(n), probe.Array(n+1), probe.Bytes(n, n+2)
		want := labelled(t, labelled(t, master, "res master", sum[:]), "resumption", nonce[:min(n, 255)])
		is(t, "Resume", schedule.Resume(master, sum, nonce), want)
	}
}

// TestSign: P15.1, against another library.
func TestSign(t *testing.T) {
	for seed := range 20 {
		host, sum := probe.Array(seed), probe.Array(seed+1)
		text := strings.Repeat("\x20", 64) + "TLS 1.3, server CertificateVerify" + "\x00" + string(sum[:])
		want := mac(host[:], []byte(text))
		if b := schedule.Sign(host, sum); !bytes.Equal(b, want[:]) {
			t.Errorf("%x, not %x", b, want)
		}
	}
}

// TestMemory: P15.2.
func TestMemory(t *testing.T) {
	for _, n := range []int{0, 1, 32, 100, 255, 256, 300} {
		lent := probe.Lend(probe.Bytes(n, n))
		sum := probe.Array(n)
		schedule.Start(lent.Bytes())
		schedule.Binder(lent.Bytes(), sum)
		schedule.Resume(sum, sum, lent.Bytes())
		if !lent.Kept() {
			t.Errorf("%d bytes that were handed in were changed", n)
		}
	}
	first := schedule.Sign(probe.Array(1), probe.Array(2))
	want := bytes.Clone(first)
	probe.Spoil(schedule.Sign(probe.Array(1), probe.Array(2)))
	if !bytes.Equal(first, want) || !bytes.Equal(schedule.Sign(probe.Array(1), probe.Array(2)), want) {
		t.Error("answers share memory")
	}
}
