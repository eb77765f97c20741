package vault_test

import (
	"bytes"
	"math"
	"testing"

	"relay/aead"
	"relay/api"
	"relay/probe"
	"relay/vault"
)

// mostText is how many bytes a snapshot has at most, least how many a sealed one has at least.
const (
	mostText = 30000
	least    = 26
)

// notes are some whose numbers can be so, with all edges.
func notes() []vault.Note {
	numbers := []int{0, 1, 255, 256, 65535, 65536, 1<<24 - 1, 1 << 24, 1<<31 - 2, 1<<31 - 1}
	var out []vault.Note
	for i, n := range numbers {
		for k, generation := range numbers {
			for _, conn := range []int{0, 1, 255, 256, 65534, 65535, 1000*i + k} {
				out = append(out, vault.Note{Count: n, Conn: conn, Generation: generation})
			}
		}
	}
	return out
}

// wrongNotes are some of which one number can't be so.
func wrongNotes() []vault.Note {
	var out []vault.Note
	for _, n := range []int{math.MinInt, -1 << 31, -65536, -1, 1 << 31, 1<<31 + 1, 1<<32 - 1, 1 << 32, 1<<32 + 7, math.MaxInt} {
		out = append(out, vault.Note{Count: n}, vault.Note{Count: n, Conn: 1, Generation: 2}, vault.Note{Generation: n}, vault.Note{Count: 1, Conn: 2, Generation: n})
	}
	for _, n := range []int{math.MinInt, -65536, -1, 65536, 65537, 1<<31 - 1, 1 << 32, math.MaxInt} {
		out = append(out, vault.Note{Conn: n}, vault.Note{Count: 1, Conn: n, Generation: 2})
	}
	return out
}

// headOf is a Note's ten bytes, by the chapter's words.
func headOf(n vault.Note) []byte {
	return []byte{byte(n.Count >> 24), byte(n.Count >> 16), byte(n.Count >> 8), byte(n.Count), byte(n.Conn >> 8), byte(n.Conn),
		byte(n.Generation >> 24), byte(n.Generation >> 16), byte(n.Generation >> 8), byte(n.Generation)}
}

// laid is Seal, by the chapter's words and the layer below.
func laid(key [32]byte, n vault.Note, b []byte) []byte {
	head := headOf(n)
	var nonce [12]byte
	copy(nonce[8:], head[:4])
	return append(bytes.Clone(head), aead.Seal(key, nonce, b, head)...)
}

// opens holds Read and Open of b against what must be told.
func opens(t *testing.T, what string, key [32]byte, b []byte, n vault.Note, text []byte, want api.Errno) {
	t.Helper()
	wantRead, note := want, n
	if want == api.ErrOpen {
		wantRead, n = api.OK, vault.Note{}
	}
	if x, e := vault.Read(b); x != note || e != wantRead {
		t.Errorf("%s is read as %v, %d, not %v, %d", what, x, e, note, wantRead)
	}
	if x, y, e := vault.Open(key, b); x != n || !bytes.Equal(y, text) || e != want {
		t.Errorf("%s is opened as %v, %x, %d, not %v, %x, %d", what, x, y, e, n, text, want)
	}
}

// TestKnownSeals: P19.1, of another library.
func TestKnownSeals(t *testing.T) {
	key := [32]byte(probe.Hex("000102030405060708090a0b0c0d0e0f101112131415161718191a1b1c1d1e1f"))
	for _, c := range []struct {
		n    vault.Note
		text string
		b    string
	}{
		{vault.Note{}, "", "00000000000000000000769e47fd86e55b54a13a1987eaaf1a9b"},
		{vault.Note{Count: 260, Conn: 3, Generation: 2}, "x", "000001040003000000021b47075c12bed2c84c4b29a8aff1566752"},
		{vault.Note{Count: 0x01020304, Conn: 0x0506, Generation: 0x0708090a}, "a snapshot of a connection",
			"0102030405060708090af7e26fdcba6155c1bb190493ce603b5462427ab956da19b7e21cbe92d7393f8451b19808348f527a3ab8"},
		{vault.Note{Count: 0x7fffffff, Conn: 65535, Generation: 0x7fffffff}, string(bytes.Repeat([]byte{0xff}, 70)),
			"7fffffffffff7fffffff079e453cb65cd61a9ffc2a7ec01d409ba55ef9c3b22146a81f8ee4e4b8f505002b597af20e2dcd552e0c8960bad0e48d988d535c06608adf562ab35660c26e3e0ada2cc2f042877899951c64d409f526cf4443a438f9"},
	} {
		b, e := vault.Seal(key, c.n, []byte(c.text))
		if !bytes.Equal(b, probe.Hex(c.b)) || e != api.OK {
			t.Errorf("%v is sealed to %x, %d", c.n, b, e)
		}
		opens(t, "known", key, probe.Hex(c.b), c.n, []byte(c.text), api.OK)
	}
}

// TestExample: P19.1.
func TestExample(t *testing.T) {
	if b, e := vault.Seal([32]byte{}, vault.Note{}, nil); len(b) != least || e != api.OK {
		t.Errorf("%x, %d", b, e)
	}
}

// TestSealAndOpen: P19.1 and P19.2, of all edges of numbers and of texts.
func TestSealAndOpen(t *testing.T) {
	for i, n := range notes() {
		key, text := probe.Array(i), probe.Bytes(i%100, i)
		b, e := vault.Seal(key, n, text)
		if !bytes.Equal(b, laid(key, n, text)) || e != api.OK {
			t.Fatalf("%v: %x, %d", n, b, e)
		}
		opens(t, "what was sealed", key, b, n, text, api.OK)
	}
	for _, size := range []int{0, 1, 15, 16, 17, 4096, 20000, mostText - 1, mostText} {
		key, n, text := probe.Array(size), vault.Note{Count: size, Conn: 1, Generation: 7}, probe.Bytes(size, 1)
		b, e := vault.Seal(key, n, text)
		if !bytes.Equal(b, laid(key, n, text)) || e != api.OK {
			t.Fatalf("%d bytes: %d bytes, %d", size, len(b), e)
		}
		opens(t, "what was sealed", key, b, n, text, api.OK)
	}
}

// TestSealRefuses: P19.1.
func TestSealRefuses(t *testing.T) {
	for _, n := range wrongNotes() {
		for _, size := range []int{0, 1, mostText, mostText + 1} {
			if b, e := vault.Seal(probe.Array(1), n, make([]byte, size)); len(b) != 0 || e != api.ErrArg {
				t.Errorf("%v, %d bytes: %x, %d", n, size, b, e)
			}
		}
	}
	for _, n := range notes()[:20] {
		for _, size := range []int{mostText + 1, mostText + 2, 65536, 1 << 20} {
			if b, e := vault.Seal(probe.Array(1), n, make([]byte, size)); len(b) != 0 || e != api.ErrArg {
				t.Errorf("%v, %d bytes: %x, %d", n, size, b, e)
			}
		}
	}
}

// TestCountsThatCantBe: P19.1; a number that can't be is told of bytes that may be so many alone.
func TestCountsThatCantBe(t *testing.T) {
	key, n := probe.Array(1), vault.Note{Count: 5, Conn: 6, Generation: 7}
	wrong := append([]byte{0x80}, make([]byte, 2*mostText)...)
	b := append(laid(key, n, probe.Bytes(mostText, 1)), wrong...)
	for size := range least {
		opens(t, "too few", key, b[:size], vault.Note{}, nil, api.ErrShort)
		opens(t, "too few, of a wrong number", key, wrong[:size], vault.Note{}, nil, api.ErrShort)
	}
	opens(t, "nil", key, nil, vault.Note{}, nil, api.ErrShort)
	for _, size := range []int{least, least + 1, 1000, mostText + least - 1} {
		opens(t, "a part", key, b[:size], n, nil, api.ErrOpen)
		opens(t, "a wrong number", key, wrong[:size], vault.Note{}, nil, api.ErrForm)
	}
	opens(t, "all", key, b[:mostText+least], n, probe.Bytes(mostText, 1), api.OK)
	for _, size := range []int{mostText + least + 1, mostText + least + 2, len(b)} {
		opens(t, "too many", key, b[:size], vault.Note{}, nil, api.ErrForm)
	}
	tooLong := laid(key, n, probe.Bytes(mostText+1, 1))
	opens(t, "a text too long", key, tooLong, vault.Note{}, nil, api.ErrForm)
}

// TestNumbersThatCantBe: P19.1, also where all else is sealed so.
func TestNumbersThatCantBe(t *testing.T) {
	key := probe.Array(1)
	for _, count := range []int{1 << 31, 1<<31 + 1, 1<<32 - 1} {
		opens(t, "Count", key, laid(key, vault.Note{Count: count, Conn: 1}, nil), vault.Note{}, nil, api.ErrForm)
		opens(t, "Generation", key, laid(key, vault.Note{Generation: count, Conn: 1}, []byte("text")), vault.Note{}, nil, api.ErrForm)
	}
}

// TestOtherBytes: P19.2, of each bit, of bytes that lack and of more of them.
func TestOtherBytes(t *testing.T) {
	key, n, text := probe.Array(1), vault.Note{Count: 0x01020304, Conn: 0x0506, Generation: 0x0708090a}, probe.Bytes(40, 1)
	b := laid(key, n, text)
	for at := range b {
		for bit := range 8 {
			c := bytes.Clone(b)
			c[at] ^= 1 << bit
			if bit == 7 && (at == 0 || at == 6) {
				opens(t, "a number that can't be", key, c, vault.Note{}, nil, api.ErrForm)
				continue
			}
			note := vault.Note{
				Count:      int(c[0])<<24 | int(c[1])<<16 | int(c[2])<<8 | int(c[3]),
				Conn:       int(c[4])<<8 | int(c[5]),
				Generation: int(c[6])<<24 | int(c[7])<<16 | int(c[8])<<8 | int(c[9]),
			}
			opens(t, "a bent bit", key, c, note, nil, api.ErrOpen)
		}
	}
	for size := least; size < len(b); size++ {
		opens(t, "a part", key, b[:size], n, nil, api.ErrOpen)
	}
	opens(t, "a byte more", key, append(bytes.Clone(b), 0), n, nil, api.ErrOpen)
	opens(t, "a byte ahead", key, append([]byte{1}, b...), vault.Note{Count: 0x01010203, Conn: 0x0405, Generation: 0x06070809}, nil, api.ErrOpen)
}

// TestOtherKeysAndNotes: P19.2; nothing opens by another key, or under another's Note.
func TestOtherKeysAndNotes(t *testing.T) {
	text := probe.Bytes(40, 1)
	all := notes()
	for i, n := range all[:100] {
		key := probe.Array(i)
		b := laid(key, n, text)
		opens(t, "another key", probe.Array(i+1), b, n, nil, api.ErrOpen)
		other := key
		other[i%32] ^= 1
		opens(t, "a bent key", other, b, n, nil, api.ErrOpen)
		opens(t, "a key of noughts", [32]byte{}, b, n, nil, api.ErrOpen)
		x := all[len(all)-1-i]
		opens(t, "another Note", key, append(headOf(x), b[10:]...), x, nil, api.ErrOpen)
	}
}

// TestNonceIsTheCount: P19.1; of one key a Count, and it alone, tells by what a text is sealed.
func TestNonceIsTheCount(t *testing.T) {
	key, text := probe.Array(1), make([]byte, 64)
	first := laid(key, vault.Note{Count: 9}, text)
	for _, n := range notes() {
		b, _ := vault.Seal(key, n, text)
		if bytes.Equal(b[10:74], first[10:74]) != (n.Count == 9) {
			t.Errorf("%v: %x", n, b)
		}
		n.Count = 9
		if b, _ := vault.Seal(key, n, text); !bytes.Equal(b[10:74], first[10:74]) {
			t.Errorf("%v: %x", n, b)
		}
	}
}

// TestMemory: P19.3.
func TestMemory(t *testing.T) {
	key, n := probe.Array(1), vault.Note{Count: 1, Conn: 2, Generation: 3}
	for _, size := range []int{0, 1, 100, mostText} {
		text := probe.Lend(probe.Bytes(size, 1))
		b, e := vault.Seal(key, n, text.Bytes())
		if !text.Kept() || e != api.OK {
			t.Errorf("%d bytes were changed, %d", size, e)
		}
		text.Spoil()
		if !bytes.Equal(b, laid(key, n, probe.Bytes(size, 1))) {
			t.Errorf("%d bytes are kept", size)
		}
		in := probe.Lend(b)
		x, out, e := vault.Open(key, in.Bytes())
		vault.Read(in.Bytes())
		vault.Open(probe.Array(2), in.Bytes())
		if !in.Kept() || e != api.OK {
			t.Errorf("%d sealed bytes were changed, %d", size, e)
		}
		probe.Spoil(out)
		if !in.Kept() {
			t.Errorf("%d bytes are of what was handed in", size)
		}
		_, out, _ = vault.Open(key, in.Bytes())
		in.Spoil()
		if x != n || !bytes.Equal(out, probe.Bytes(size, 1)) {
			t.Errorf("%d sealed bytes are kept", size)
		}
	}
}

// TestWhateverComes: P19.1; no bytes that nobody sealed open.
func TestWhateverComes(t *testing.T) {
	for seed := range 5000 {
		b := probe.Bytes(seed%120, seed)
		n, text, e := vault.Open(probe.Array(seed%3), b)
		if n != (vault.Note{}) || len(text) > 0 || e == api.OK {
			t.Errorf("%x: %v, %x, %d", b, n, text, e)
		}
	}
}
