package cursor_test

import (
	"bytes"
	"testing"

	"relay/api"
	"relay/cursor"
	"relay/probe"
)

// look holds a Reader against what it should tell now; twice, as neither goes anywhere.
func look(t *testing.T, what string, r *cursor.Reader, left int, done api.Errno, isWrong bool) {
	t.Helper()
	for range 2 {
		if n, e, w := r.Left(), r.Done(), r.Wrong(); n != left || e != done || w != isWrong {
			t.Errorf("%s: left %d, done %d, wrong %v; not %d, %d, %v", what, n, e, w, left, done, isWrong)
		}
	}
}

// tellsNothing: behind what was wrong all calls tell nothing, and what was wrong first stays.
func tellsNothing(t *testing.T, what string, r *cursor.Reader, done api.Errno) {
	t.Helper()
	look(t, what, r, 0, done, true)
	for range 2 {
		for width := -1; width < 7; width++ {
			if n, v := r.Uint(width), r.Vector(width, 0, 255); n != 0 || len(v) != 0 {
				t.Errorf("%s: behind it %d and %x are read, by width %d", what, n, v, width)
			}
		}
		for _, n := range []int{-1, 0, 1, 1 << 40} {
			if b := r.Bytes(n); len(b) != 0 {
				t.Errorf("%s: behind it %x is read", what, b)
			}
		}
		r.Fail()
		look(t, what, r, 0, done, true)
	}
}

// TestUint: P7.1, of each width.
func TestUint(t *testing.T) {
	for _, c := range []struct {
		b           string
		width, want int
	}{
		{"00", 1, 0}, {"07", 1, 7}, {"ff", 1, 255},
		{"0001", 2, 1}, {"0102", 2, 0x102}, {"ffff", 2, 65535},
		{"010203", 3, 0x10203}, {"ffffff", 3, 1<<24 - 1},
		{"00000001", 4, 1}, {"01020304", 4, 0x1020304}, {"80000000", 4, 1 << 31}, {"ffffffff", 4, 1<<32 - 1},
	} {
		r := cursor.New(append(probe.Hex(c.b), 9))
		if n := r.Uint(c.width); n != c.want {
			t.Errorf("%s: %d", c.b, n)
		}
		look(t, c.b, r, 1, api.ErrForm, false)
		if n := r.Uint(1); n != 9 {
			t.Errorf("behind %s: %d", c.b, n)
		}
		look(t, c.b, r, 0, api.OK, false)
	}
}

// TestUintWrong: P7.1; a width that can't be counts, whatever bytes there are.
func TestUintWrong(t *testing.T) {
	for _, width := range []int{-1 << 62, -1, 0, 5, 8, 1 << 62} {
		for n := range 10 {
			r := cursor.New(probe.Bytes(n, 1))
			if x := r.Uint(width); x != 0 {
				t.Errorf("width %d: %d", width, x)
			}
			tellsNothing(t, "a width", r, api.ErrForm)
		}
	}
	for width := 1; width <= 4; width++ {
		for n := range width {
			r := cursor.New(bytes.Repeat([]byte{1}, n))
			if x := r.Uint(width); x != 0 {
				t.Errorf("%d bytes, width %d: %d", n, width, x)
			}
			tellsNothing(t, "too few bytes of a number", r, api.ErrShort)
		}
	}
}

// TestBytes: P7.1.
func TestBytes(t *testing.T) {
	all := probe.Bytes(10, 1)
	r := cursor.New(all)
	look(t, "at first", r, 10, api.ErrForm, false)
	if b := r.Bytes(0); len(b) != 0 {
		t.Errorf("%x", b)
	}
	look(t, "behind no byte", r, 10, api.ErrForm, false)
	if b := r.Bytes(3); !bytes.Equal(b, all[:3]) {
		t.Errorf("%x", b)
	}
	look(t, "behind 3", r, 7, api.ErrForm, false)
	if b := r.Bytes(7); !bytes.Equal(b, all[3:]) {
		t.Errorf("%x", b)
	}
	look(t, "behind all", r, 0, api.OK, false)
	if b := r.Bytes(0); len(b) != 0 {
		t.Errorf("%x", b)
	}
	look(t, "behind no byte more", r, 0, api.OK, false)
	if b := r.Bytes(1); len(b) != 0 {
		t.Errorf("%x", b)
	}
	tellsNothing(t, "one too many", r, api.ErrShort)
	for n, want := range map[int]api.Errno{-1: api.ErrForm, -1 << 63: api.ErrForm, 11: api.ErrShort, 1<<63 - 1: api.ErrShort} {
		r := cursor.New(all)
		if b := r.Bytes(n); len(b) != 0 {
			t.Errorf("%d: %x", n, b)
		}
		tellsNothing(t, "a count", r, want)
	}
}

// TestVector: P7.1; least and most are looked at last, bytes that lack ahead of them.
func TestVector(t *testing.T) {
	for _, c := range []struct {
		b                  string
		width, least, most int
		want               string
		done               api.Errno
	}{
		{"0161", 1, 0, 255, "61", api.OK},
		{"00026162", 2, 2, 2, "6162", api.OK},
		{"0000036162ff", 3, 0, 3, "6162ff", api.OK},
		{"000000016a", 4, 1, 1, "6a", api.OK},
		{"00", 1, 0, 0, "", api.OK},
		{"00000000", 4, 0, 0, "", api.OK},
		{"00", 1, -5, 0, "", api.OK},
		{"0161", 1, 2, 9, "", api.ErrForm},
		{"00", 1, 1, 9, "", api.ErrForm},
		{"026162", 1, 0, 1, "", api.ErrForm},
		{"026162", 1, 3, 1, "", api.ErrForm},
		{"00", 1, 0, -1, "", api.ErrForm},
		{"0161", 0, 0, 9, "", api.ErrForm},
		{"0161", 5, 0, 9, "", api.ErrForm},
		{"", -1, 0, 9, "", api.ErrForm},
		{"", 1, 0, 9, "", api.ErrShort},
		{"", 1, 1, 0, "", api.ErrShort},
		{"000001", 4, 0, 9, "", api.ErrShort},
		{"0261", 1, 0, 9, "", api.ErrShort},
		{"0261", 1, 0, 1, "", api.ErrShort},
		{"0261", 1, 3, 9, "", api.ErrShort},
		{"ffffffff61", 4, 0, 9, "", api.ErrShort},
	} {
		r := cursor.New(probe.Hex(c.b))
		if v := r.Vector(c.width, c.least, c.most); !bytes.Equal(v, probe.Hex(c.want)) {
			t.Errorf("%s of width %d, %d to %d: %x", c.b, c.width, c.least, c.most, v)
		}
		if c.done == api.OK {
			look(t, c.b, r, 0, api.OK, false)
		} else {
			tellsNothing(t, c.b, r, c.done)
		}
	}
}

// TestVectorGoesOn: P7.1; it leaves what stands behind it.
func TestVectorGoesOn(t *testing.T) {
	r := cursor.New(probe.Hex("0261620001ff07"))
	v, w, n := r.Vector(1, 0, 2), r.Vector(2, 0, 2), r.Uint(1)
	if string(v) != "ab" || !bytes.Equal(w, []byte{255}) || n != 7 {
		t.Errorf("%x %x %d", v, w, n)
	}
	look(t, "all", r, 0, api.OK, false)
}

// TestFail: P7.1; it is as something that was wrong, and what was wrong first counts.
func TestFail(t *testing.T) {
	for _, n := range []int{0, 1, 20} {
		r := cursor.New(probe.Bytes(n, 1))
		if r.Wrong() {
			t.Errorf("%d bytes: wrong at first", n)
		}
		r.Fail()
		tellsNothing(t, "Fail", r, api.ErrForm)
	}
	r := cursor.New([]byte{1})
	r.Uint(2)
	r.Fail()
	r.Bytes(-1)
	r.Uint(9)
	tellsNothing(t, "short, and then Fail", r, api.ErrShort)
	r = cursor.New([]byte{1})
	r.Bytes(-1)
	r.Bytes(2)
	tellsNothing(t, "a count below 0, and then short", r, api.ErrForm)
}

// TestDone: P7.1.
func TestDone(t *testing.T) {
	look(t, "nil", cursor.New(nil), 0, api.OK, false)
	look(t, "no byte", cursor.New([]byte{}), 0, api.OK, false)
	look(t, "a byte", cursor.New([]byte{0}), 1, api.ErrForm, false)
	r := cursor.New([]byte{5})
	if r.Done() != api.ErrForm || r.Uint(1) != 5 || r.Done() != api.OK {
		t.Error("Done goes somewhere, or keeps what it told")
	}
}

// TestNil: P7.1; a nil Reader tells nothing.
func TestNil(t *testing.T) {
	var r *cursor.Reader
	tellsNothing(t, "a nil Reader", r, api.ErrArg)
}

// TestPutUint: P7.1, at the edges of each width.
func TestPutUint(t *testing.T) {
	for _, c := range []struct {
		n, width int
		want     string
	}{
		{0, 1, "00"}, {255, 1, "ff"}, {256, 1, ""}, {-1, 1, ""},
		{0, 2, "0000"}, {0x102, 2, "0102"}, {65535, 2, "ffff"}, {65536, 2, ""}, {-1, 2, ""},
		{0x10203, 3, "010203"}, {1<<24 - 1, 3, "ffffff"}, {1 << 24, 3, ""}, {-1, 3, ""},
		{1, 4, "00000001"}, {1<<32 - 1, 4, "ffffffff"}, {1 << 32, 4, ""}, {-1, 4, ""}, {1<<63 - 1, 4, ""}, {-1 << 63, 4, ""},
		{0, 0, ""}, {1, 5, ""}, {0, 8, ""}, {0, -1, ""}, {1, -1 << 63, ""}, {1, 1<<63 - 1, ""},
	} {
		for _, ahead := range [][]byte{nil, {}, {7}, probe.Bytes(50, 1)} {
			b := cursor.PutUint(ahead, c.n, c.width)
			if c.want == "" {
				if b != nil {
					t.Errorf("%d of width %d: %x", c.n, c.width, b)
				}
			} else if !bytes.Equal(b, append(bytes.Clone(ahead), probe.Hex(c.want)...)) {
				t.Errorf("%d of width %d: %x", c.n, c.width, b)
			}
		}
	}
}

// TestPutVector: P7.1, at the edges of each width.
func TestPutVector(t *testing.T) {
	if b := cursor.PutVector(nil, []byte("ab"), 2); !bytes.Equal(b, []byte{0, 2, 'a', 'b'}) {
		t.Errorf("%x", b)
	}
	for width := 1; width <= 4; width++ {
		for _, n := range []int{0, 1, 255, 256, 65535, 65536, 1<<24 - 1, 1 << 24} {
			v := bytes.Repeat([]byte{3}, n)
			b := cursor.PutVector([]byte{1}, v, width)
			if hasRoom := n>>(8*width) == 0; !hasRoom {
				if b != nil {
					t.Errorf("%d bytes of width %d: %d bytes", n, width, len(b))
				}
				continue
			}
			head := cursor.PutUint([]byte{1}, n, width)
			if len(head) != 1+width || !bytes.Equal(b, append(head, v...)) {
				t.Errorf("%d bytes of width %d: %d bytes", n, width, len(b))
			}
		}
	}
	for _, width := range []int{-1, 0, 5, 1 << 62} {
		if b := cursor.PutVector([]byte{1}, nil, width); b != nil {
			t.Errorf("width %d: %x", width, b)
		}
	}
}

// TestPutIsReadAgain: P7.2, of rows of numbers and vectors.
func TestPutIsReadAgain(t *testing.T) {
	for seed := range 200 {
		pick := probe.Bytes(24, seed)
		var all []byte
		for i := 0; i < len(pick); i += 3 {
			width := 1 + int(pick[i]%4)
			all = cursor.PutUint(all, int(pick[i+1]), width)
			all = cursor.PutVector(all, probe.Bytes(int(pick[i+2]), i), width)
		}
		r := cursor.New(all)
		for i := 0; i < len(pick); i += 3 {
			width, size := 1+int(pick[i]%4), int(pick[i+2])
			if n := r.Uint(width); n != int(pick[i+1]) {
				t.Errorf("seed %d: %d", seed, n)
			}
			if v := r.Vector(width, size, size); !bytes.Equal(v, probe.Bytes(size, i)) {
				t.Errorf("seed %d: %x", seed, v)
			}
		}
		look(t, "all", r, 0, api.OK, false)
	}
}

// TestLentBytesStay: P7.3.
func TestLentBytesStay(t *testing.T) {
	for _, n := range []int{0, 1, 50} {
		b, v := probe.Lend(probe.Bytes(n, 1)), probe.Lend(probe.Bytes(n, 2))
		wantNumber := append(probe.Bytes(n, 1), 0, 9)
		wantVector := append(append(probe.Bytes(n, 1), 0, byte(n)), probe.Bytes(n, 2)...)
		number, again := cursor.PutUint(b.Bytes(), 9, 2), cursor.PutUint(b.Bytes(), 9, 2)
		vector, another := cursor.PutVector(b.Bytes(), v.Bytes(), 2), cursor.PutVector(b.Bytes(), v.Bytes(), 2)
		probe.Spoil(again)
		probe.Spoil(another)
		if !b.Kept() || !v.Kept() {
			t.Errorf("%d bytes: what was handed in was changed", n)
		}
		b.Spoil()
		v.Spoil()
		if !bytes.Equal(number, wantNumber) || !bytes.Equal(vector, wantVector) {
			t.Errorf("%d bytes: an answer shares memory", n)
		}
	}
	same := probe.Lend([]byte("abc"))
	if b := cursor.PutVector(same.Bytes(), same.Bytes(), 1); string(b) != "abc\x03abc" || !same.Kept() {
		t.Errorf("behind itself: %q", b)
	}
}

// TestReaderHasItsOwnBytes: P7.3; neither answers nor what was handed in are a way into a Reader.
func TestReaderHasItsOwnBytes(t *testing.T) {
	b := probe.Lend([]byte("\x03abcdefghi"))
	r := cursor.New(b.Bytes())
	first := r.Vector(1, 3, 3)
	probe.Spoil(first)
	second := r.Bytes(3)
	if string(second) != "def" || !b.Kept() {
		t.Errorf("an answer shares memory with others: %q", second)
	}
	probe.Spoil(second)
	b.Spoil()
	if x := r.Bytes(2); string(x) != "gh" {
		t.Errorf("%q", x)
	}
	look(t, "but one", r, 1, api.ErrForm, false)
}
