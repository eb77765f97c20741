package record_test

import (
	"bytes"
	"encoding/hex"
	"math"
	"slices"
	"testing"

	"relay/aead"
	"relay/api"
	"relay/probe"
	"relay/record"
)

// types are all there are; others are some that aren't, also those whose lowest byte is one's.
var (
	types  = []int{20, 21, 22, 23}
	others = []int{math.MinInt, -256 + 23, -1, 0, 1, 3, 19, 24, 25, 255, 256, 256 + 20, 256 + 23, 1<<32 + 22, math.MaxInt}
)

// keysOf is keys, others for each seed.
func keysOf(seed int) record.Keys {
	return record.Keys{Key: probe.Array(seed), Iv: [12]byte(probe.Bytes(12, seed+1))}
}

// sealed is aead.Seal of inner bytes, as a record of type Data whose body it is.
func sealed(k record.Keys, seq uint64, inner []byte) []byte {
	n := len(inner) + 16
	head := []byte{23, 3, 3, byte(n >> 8), byte(n)}
	return append(bytes.Clone(head), aead.Seal(k.Key, record.Nonce(k, seq), inner, head)...)
}

// opens holds what Open tells of a body against a type, a text and an error.
func opens(t *testing.T, what string, k record.Keys, seq uint64, body []byte, kind int, text []byte, want api.Errno) {
	t.Helper()
	n, b, e := record.Open(k, seq, body)
	if n != kind || !bytes.Equal(b, text) || e != want {
		t.Errorf("%s: %d %x %d, not %d %x %d", what, n, b, e, kind, text, want)
	}
}

// TestTypes: P12.1.
func TestTypes(t *testing.T) {
	if !slices.Equal(types, []int{record.Change, record.Alert, record.Handshake, record.Data}) {
		t.Error("the types are others")
	}
}

// TestPlain: P12.1, of each type and of lengths up to the edge.
func TestPlain(t *testing.T) {
	if b, e := record.Plain(21, []byte{1, 0}); !bytes.Equal(b, probe.Hex("15030300020100")) || e != api.OK {
		t.Errorf("%x %d", b, e)
	}
	for _, kind := range types {
		for _, n := range []int{0, 1, 2, 100, 254, 255, 256} {
			text := probe.Bytes(n, kind)
			want := append([]byte{byte(kind), 3, 3, byte(n / 256), byte(n % 256)}, text...)
			if b, e := record.Plain(kind, text); !bytes.Equal(b, want) || e != api.OK {
				t.Errorf("type %d, %d bytes: %x %d", kind, n, b, e)
			}
		}
	}
	if b, e := record.Plain(22, nil); !bytes.Equal(b, []byte{22, 3, 3, 0, 0}) || e != api.OK {
		t.Errorf("nil: %x %d", b, e)
	}
}

// TestPlainRefuses: P12.1.
func TestPlainRefuses(t *testing.T) {
	for _, kind := range others {
		for _, n := range []int{0, 2, 256, 257} {
			if b, e := record.Plain(kind, make([]byte, n)); b != nil || e != api.ErrArg {
				t.Errorf("type %d, %d bytes: %x %d", kind, n, b, e)
			}
		}
	}
	for _, kind := range types {
		for _, n := range []int{257, 258, 512, 65535, 65536, 65537} {
			if b, e := record.Plain(kind, make([]byte, n)); b != nil || e != api.ErrArg {
				t.Errorf("type %d, %d bytes: %x %d", kind, n, b, e)
			}
		}
	}
}

// TestKnownSeals: P12.1, of another library (a text in base 16, and how many noughts).
func TestKnownSeals(t *testing.T) {
	k := record.Derive([32]byte(probe.Hex("000102030405060708090a0b0c0d0e0f101112131415161718191a1b1c1d1e1f")))
	for _, c := range []struct {
		seq       uint64
		kind, pad int
		text, b   string
	}{
		{0x0102030405060708, 22, 5, "706164646564", "170303001cfaccd7848a8fa474fea4e8c42af50abf3c769de519ab3fce43a2bfac"},
		{1<<64 - 1, 21, 0, "0100", "1703030013f584edbebf641c29ad09e5e1a575f7fc4a4b5c"},
		{63, 20, 3, "", "170303001435b41b6a0f9aef173c0369f6810d65b3167aedcb"},
	} {
		text, want := probe.Hex(c.text), probe.Hex(c.b)
		if b, e := record.Seal(k, c.seq, c.kind, text, c.pad); !bytes.Equal(b, want) || e != api.OK {
			t.Errorf("%x is sealed to %x, %d", text, b, e)
		}
		opens(t, "known", k, c.seq, want[5:], c.kind, text, api.OK)
	}
}

// TestSeal: P12.1 and P12.2, of each type, and of texts and noughts up to the edge.
func TestSeal(t *testing.T) {
	counts := []int{0, 1, 2, 15, 16, 100, 127, 128, 255, 256}
	for _, n := range counts {
		for _, pad := range counts {
			kind, k, seq := types[(n+pad)%4], keysOf(n), uint64(pad)<<40+uint64(n)
			text := probe.Bytes(n, pad)
			b, e := record.Seal(k, seq, kind, text, pad)
			if n+1+pad > 257 {
				if b != nil || e != api.ErrArg {
					t.Errorf("%d bytes and %d noughts: %x %d", n, pad, b, e)
				}
				continue
			}
			inner := slices.Concat(text, []byte{byte(kind)}, make([]byte, pad))
			if !bytes.Equal(b, sealed(k, seq, inner)) || len(b) != 5+n+1+pad+16 || e != api.OK {
				t.Fatalf("%d bytes and %d noughts: %x %d", n, pad, b, e)
			}
			opens(t, "sealed", k, seq, b[5:], kind, text, api.OK)
		}
	}
}

// TestSealRefuses: P12.1; also where a sum of all bytes would go round.
func TestSealRefuses(t *testing.T) {
	type refused struct{ kind, n, pad int }
	var list []refused
	for _, kind := range others {
		list = append(list, refused{kind, 0, 0}, refused{kind, 256, 0}, refused{kind, 257, -1})
	}
	for _, kind := range types {
		for _, pad := range []int{-1, -2, -256, math.MinInt} {
			list = append(list, refused{kind, 0, pad}, refused{kind, 4, pad}, refused{kind, 256, pad}, refused{kind, 257, pad})
		}
		for _, pad := range []int{257, 258, 65536, 1 << 32, math.MaxInt - 1, math.MaxInt} {
			list = append(list, refused{kind, 0, pad}, refused{kind, 4, pad}, refused{kind, 256, pad}, refused{kind, 300, pad})
		}
		list = append(list, refused{kind, 1, 256}, refused{kind, 128, 129}, refused{kind, 255, 2}, refused{kind, 256, 1},
			refused{kind, 257, 0}, refused{kind, 258, 0}, refused{kind, 65536, 0}, refused{kind, 1 << 20, 7})
	}
	for _, c := range list {
		if b, e := record.Seal(keysOf(1), 0, c.kind, make([]byte, c.n), c.pad); b != nil || e != api.ErrArg {
			t.Errorf("type %d, %d bytes, %d noughts: %x %d", c.kind, c.n, c.pad, b, e)
		}
	}
}

// TestOpenOfEachLength: P12.1; 273 bytes may be, also if nothing else is right, and more may not, also if all else is.
func TestOpenOfEachLength(t *testing.T) {
	k := keysOf(1)
	for _, n := range []int{0, 1, 2, 15, 16, 17, 100, 272, 273} {
		opens(t, "noughts", k, 0, make([]byte, n), 0, nil, api.ErrOpen)
	}
	opens(t, "nil", k, 0, nil, 0, nil, api.ErrOpen)
	for _, n := range []int{274, 275, 289, 65536, 1 << 20} {
		opens(t, "too long", k, 0, make([]byte, n), 0, nil, api.ErrArg)
	}
	most := append(probe.Bytes(256, 1), 23)
	opens(t, "257 bytes", k, 7, sealed(k, 7, most)[5:], 23, most[:256], api.OK)
	for _, inner := range [][]byte{append(most, 23), append(most, 0), make([]byte, 258)} {
		opens(t, "258 bytes", k, 7, sealed(k, 7, inner)[5:], 0, nil, api.ErrArg)
	}
}

// TestOpenFindsTheType: P12.1; noughts of a text stay, and what isn't a type isn't skipped.
func TestOpenFindsTheType(t *testing.T) {
	k := keysOf(2)
	for _, c := range []struct {
		inner string
		kind  int
		text  string
	}{
		{"15", 21, ""}, {"1500", 21, ""}, {"150000000000", 21, ""}, {"0015", 21, "00"}, {"00001400", 20, "0000"},
		{"1717", 23, "17"}, {"171600", 22, "17"}, {"0000170000", 23, "0000"}, {"61006200160000", 22, "61006200"},
	} {
		opens(t, c.inner, k, 3, sealed(k, 3, probe.Hex(c.inner))[5:], c.kind, probe.Hex(c.text), api.OK)
	}
	for _, n := range []int{0, 1, 2, 16, 255, 256, 257} {
		opens(t, "noughts", k, 3, sealed(k, 3, make([]byte, n))[5:], 0, nil, api.ErrForm)
	}
	for last := 1; last < 256; last++ {
		for _, inner := range [][]byte{{byte(last)}, {23, byte(last)}, {23, byte(last), 0, 0}} {
			body := sealed(k, 3, inner)[5:]
			if last >= 20 && last <= 23 {
				opens(t, "a type", k, 3, body, last, bytes.TrimRight(inner, "\x00")[:len(bytes.TrimRight(inner, "\x00"))-1], api.OK)
			} else {
				opens(t, "none", k, 3, body, 0, nil, api.ErrForm)
			}
		}
	}
}

// TestOpenRefusesOthers: P12.1; each bit of keys and body, and the five bytes ahead of it, are looked at.
func TestOpenRefusesOthers(t *testing.T) {
	for _, n := range []int{0, 1, 30, 256} {
		k, text := keysOf(n), probe.Bytes(n, 3)
		b, _ := record.Seal(k, 5, 22, text, 0)
		for _, part := range [][]byte{k.Key[:], k.Iv[:], b[5:]} {
			for i := range 8 * len(part) {
				part[i/8] ^= 1 << (i % 8)
				opens(t, "a bent bit", k, 5, b[5:], 0, nil, api.ErrOpen)
				part[i/8] ^= 1 << (i % 8)
			}
		}
		opens(t, "as it was", k, 5, b[5:], 22, text, api.OK)
		opens(t, "without the first byte", k, 5, b[6:], 0, nil, api.ErrOpen)
		opens(t, "without the last byte", k, 5, b[5:len(b)-1], 0, nil, api.ErrOpen)
		for _, head := range [][]byte{nil, {23, 3, 3}, {22, 3, 3, b[3], b[4]}, {23, 3, 4, b[3], b[4]}, {23, 3, 3, b[3], b[4] ^ 16}} {
			body := aead.Seal(k.Key, record.Nonce(k, 5), append(bytes.Clone(text), 22), head)
			opens(t, "with another head", k, 5, body, 0, nil, api.ErrOpen)
		}
	}
}

// TestNoOtherNumber: P12.2.
func TestNoOtherNumber(t *testing.T) {
	k := keysOf(3)
	numbers := []uint64{1<<64 - 1, 1<<63 - 1, math.MaxUint32}
	for i := range uint64(66) {
		numbers = append(numbers, i)
	}
	for i := 7; i < 64; i++ {
		numbers = append(numbers, 1<<i)
	}
	for _, seq := range numbers {
		b, e := record.Seal(k, seq, 23, []byte("text"), 1)
		if e != api.OK {
			t.Fatalf("%d: %d", seq, e)
		}
		for _, other := range numbers {
			if other != seq {
				opens(t, "another number", k, other, b[5:], 0, nil, api.ErrOpen)
			}
		}
		opens(t, "the same number", k, seq, b[5:], 23, []byte("text"), api.OK)
		opens(t, "other keys", keysOf(4), seq, b[5:], 0, nil, api.ErrOpen)
	}
}

// TestParts: P12.1.
func TestParts(t *testing.T) {
	for n, want := range map[int][]int{
		1: {1}, 2: {2}, 255: {255}, 256: {256}, 257: {256, 1}, 511: {256, 255}, 512: {256, 256}, 513: {256, 256, 1},
		1000: {256, 256, 256, 232},
	} {
		text := probe.Bytes(n, n)
		parts := record.Parts(text)
		var counts []int
		for _, part := range parts {
			counts = append(counts, len(part))
		}
		if !slices.Equal(counts, want) || !bytes.Equal(slices.Concat(parts...), text) {
			t.Errorf("%d bytes: %d", n, counts)
		}
	}
	if len(record.Parts(nil)) != 0 || len(record.Parts([]byte{})) != 0 {
		t.Error("no byte has parts")
	}
	if parts := record.Parts(make([]byte, 256*1000)); len(parts) != 1000 {
		t.Errorf("%d parts", len(parts))
	}
}

// TestMemory: P12.3.
func TestMemory(t *testing.T) {
	k := keysOf(1)
	for _, n := range []int{0, 1, 100, 256} {
		text := probe.Lend(probe.Bytes(n, 1))
		want := bytes.Clone(text.Bytes())
		for range 2 {
			plain, _ := record.Plain(22, text.Bytes())
			b, _ := record.Seal(k, 1, 22, text.Bytes(), 0)
			probe.Spoil(plain)
			probe.Spoil(b)
		}
		plain, _ := record.Plain(22, text.Bytes())
		b, _ := record.Seal(k, 1, 22, text.Bytes(), 0)
		body := probe.Lend(b[5:])
		_, first, _ := record.Open(k, 1, body.Bytes())
		_, second, e := record.Open(k, 1, body.Bytes())
		probe.Spoil(first)
		if !text.Kept() || !body.Kept() || e != api.OK {
			t.Errorf("%d bytes: what was handed in was changed, %d", n, e)
		}
		text.Spoil()
		body.Spoil()
		if !bytes.Equal(plain[5:], want) || !bytes.Equal(second, want) {
			t.Errorf("%d bytes: an answer shares memory", n)
		}
		opens(t, "what was sealed", k, 1, b[5:], 22, want, api.OK)
	}
}

// TestPartsMemory: P12.3; no part is a way into another one.
func TestPartsMemory(t *testing.T) {
	for _, n := range []int{1, 256, 600} {
		text := probe.Lend(probe.Bytes(n, 1))
		want := bytes.Clone(text.Bytes())
		for i := range record.Parts(text.Bytes()) {
			parts := record.Parts(text.Bytes())
			probe.Spoil(parts[i])
			if !text.Kept() {
				t.Fatalf("%d bytes: part %d is the text's memory", n, i)
			}
			parts[i] = want[256*i : min(256*i+256, n)]
			if !bytes.Equal(slices.Concat(parts...), want) {
				t.Errorf("%d bytes: part %d shares memory with another one", n, i)
			}
		}
		parts := record.Parts(text.Bytes())
		text.Spoil()
		if !bytes.Equal(slices.Concat(parts...), want) {
			t.Errorf("%d bytes: a part shares memory with the text", n)
		}
	}
}

// TestEachCallAlone: P12.1; what a call answers hangs on nothing that was done ahead.
func TestEachCallAlone(t *testing.T) {
	k := keysOf(9)
	first, _ := record.Seal(k, 4, 23, []byte("abc"), 2)
	record.Seal(k, 5, 21, nil, 256)
	record.Open(k, 4, first[5:])
	record.Open(k, 5, first[5:])
	if again, e := record.Seal(k, 4, 23, []byte("abc"), 2); !bytes.Equal(first, again) || e != api.OK {
		t.Errorf("%s, then %s", hex.EncodeToString(first), hex.EncodeToString(again))
	}
}
