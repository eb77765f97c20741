package stream_test

import (
	"bytes"
	"slices"
	"testing"

	"relay/api"
	"relay/probe"
	"relay/stream"
)

// types are a record's types.
var types = []int{20, 21, 22, 23}

// one is a record that was taken.
type one struct {
	kind int
	body []byte
}

// laid is a record as bytes, with a byte of its version that isn't looked at.
func laid(kind, third int, body []byte) []byte {
	return append([]byte{byte(kind), 3, byte(third), byte(len(body) >> 8), byte(len(body))}, body...)
}

// most is how many bytes a body has at most.
func most(kind int) int {
	if kind == 23 {
		return 273
	}
	return 256
}

// feed: bytes come, and are no fault yet.
func feed(t *testing.T, r *stream.Reader, b []byte) {
	t.Helper()
	if e := r.Feed(b); e != api.OK {
		t.Fatalf("Feed of %x: %d", b, e)
	}
}

// takes holds the next record against another one.
func takes(t *testing.T, what string, r *stream.Reader, kind int, body []byte) {
	t.Helper()
	if n, b, ok, e := r.Take(); n != kind || !bytes.Equal(b, body) || !ok || e != api.OK {
		t.Errorf("%s: %d %x %v %d, not %d %x", what, n, b, ok, e, kind, body)
	}
}

// stops: there is no record, for that reason (OK: there isn't all of one), and that is left; more than once.
func stops(t *testing.T, what string, r *stream.Reader, want api.Errno, left []byte) {
	t.Helper()
	for range 2 {
		if n, b, ok, e := r.Take(); n != 0 || len(b) != 0 || ok || e != want {
			t.Errorf("%s: %d %x %v %d, not %d", what, n, b, ok, e, want)
		}
		if b := r.Left(); !bytes.Equal(b, left) {
			t.Errorf("%s: %x is left, not %x", what, b, left)
		}
	}
}

// ended: Take told an error, so nothing comes any more.
func ended(t *testing.T, what string, r *stream.Reader, want api.Errno, left []byte) {
	t.Helper()
	stops(t, what, r, want, left)
	for _, b := range [][]byte{nil, {}, {22}, {23, 3, 3, 0, 1, 5}} {
		if e := r.Feed(b); e != api.ErrEnd {
			t.Errorf("%s: Feed of %x: %d", what, b, e)
		}
		stops(t, what, r, want, left)
	}
}

// all takes records up to the last one.
func all(r *stream.Reader) ([]one, api.Errno) {
	var out []one
	for {
		kind, body, ok, e := r.Take()
		if !ok {
			return out, e
		}
		out = append(out, one{kind, body})
	}
}

func same(a, b []one) bool {
	return slices.EqualFunc(a, b, func(x, y one) bool { return x.kind == y.kind && bytes.Equal(x.body, y.body) })
}

// TestExample: P13.1 and P13.2, in all pieces.
func TestExample(t *testing.T) {
	b := probe.Hex("170303000105")
	for cuts := range 1 << (len(b) - 1) {
		r, from := stream.New(nil), 0
		for i := range b {
			if i < len(b)-1 && cuts>>i&1 == 0 {
				continue
			}
			stops(t, "ahead of all", r, api.OK, b[:from])
			feed(t, r, b[from:i+1])
			from = i + 1
		}
		takes(t, "the example", r, 23, []byte{5})
		stops(t, "behind it", r, api.OK, nil)
	}
}

// TestNoBytes: P13.1.
func TestNoBytes(t *testing.T) {
	for _, r := range []*stream.Reader{stream.New(nil), stream.New([]byte{}), {}} {
		stops(t, "no byte", r, api.OK, nil)
		feed(t, r, nil)
		feed(t, r, []byte{})
		stops(t, "no byte more", r, api.OK, nil)
		feed(t, r, laid(20, 3, []byte{1}))
		takes(t, "then one", r, 20, []byte{1})
	}
}

// TestEachTypeAndLength: P13.1, at once and byte by byte, up to the edge.
func TestEachTypeAndLength(t *testing.T) {
	for _, kind := range types {
		for _, n := range []int{0, 1, 2, 255, 256, 257, 272, 273} {
			if n > most(kind) {
				continue
			}
			body := probe.Bytes(n, kind)
			b := laid(kind, n, body)
			r := stream.New(b)
			takes(t, "at once", r, kind, body)
			stops(t, "at once", r, api.OK, nil)
			for i := range b {
				stops(t, "ahead of a byte", r, api.OK, b[:i])
				feed(t, r, b[i:i+1])
			}
			takes(t, "byte by byte", r, kind, body)
			stops(t, "byte by byte", r, api.OK, nil)
		}
	}
}

// TestFirstByte: P13.1; it is looked at as soon as it is there.
func TestFirstByte(t *testing.T) {
	for first := range 256 {
		for _, behind := range [][]byte{nil, {3}, {3, 3, 0, 0}, {4}, {3, 3, 255, 255}, {3, 3, 0, 1, 7, 22}} {
			b := append([]byte{byte(first)}, behind...)
			switch isOne := slices.Contains(types, first); {
			case !isOne:
				ended(t, "a first byte", stream.New(b), api.ErrForm, b)
			case len(behind) == 0:
				stops(t, "a type", stream.New(b), api.OK, b)
			case len(behind) > 4:
				takes(t, "a type", stream.New(b), first, []byte{7})
			}
		}
	}
}

// TestSecondByte: P13.1; it is looked at as soon as it is there, and the third one never.
func TestSecondByte(t *testing.T) {
	for second := range 256 {
		for _, kind := range types {
			for _, behind := range [][]byte{nil, {3}, {3, 0}, {3, 0, 0}, {3, 255, 255}} {
				b := append([]byte{byte(kind), byte(second)}, behind...)
				switch {
				case second != 3:
					ended(t, "a second byte", stream.New(b), api.ErrForm, b)
				case len(behind) < 3:
					stops(t, "03", stream.New(b), api.OK, b)
				}
			}
		}
	}
	for third := range 256 {
		takes(t, "a third byte", stream.New(laid(22, third, []byte{1, 2})), 22, []byte{1, 2})
	}
}

// TestCount: P13.1; a count is looked at as soon as five bytes are there, and not ahead.
func TestCount(t *testing.T) {
	for _, kind := range types {
		for _, n := range []int{0, 1, 255, 256, 257, 272, 273, 274, 300, 511, 512, 32767, 32768, 65280, 65535} {
			b := []byte{byte(kind), 3, 3, byte(n >> 8), byte(n)}
			stops(t, "four bytes", stream.New(b[:4]), api.OK, b[:4])
			for _, more := range []int{0, 1, 300} {
				r, came := stream.New(b), append(bytes.Clone(b), make([]byte, more)...)
				feed(t, r, came[5:])
				switch {
				case n > most(kind):
					ended(t, "a count", r, api.ErrFull, came)
				case more < n:
					stops(t, "a count", r, api.OK, came)
				default:
					takes(t, "a count", r, kind, make([]byte, n))
				}
			}
		}
	}
}

// TestFormIsAheadOfFull: P13.1; the first error of the order is told.
func TestFormIsAheadOfFull(t *testing.T) {
	for _, b := range [][]byte{{23, 4, 3, 255, 255}, {24, 3, 3, 255, 255}, {0, 0, 0, 255, 255, 1}} {
		ended(t, "both", stream.New(b), api.ErrForm, b)
	}
}

// TestTakeTellsTheError: P13.1; bytes may come till Take told it, and what stands ahead of it is taken.
func TestTakeTellsTheError(t *testing.T) {
	good := laid(22, 3, []byte("abc"))
	for want, bad := range map[api.Errno][]byte{api.ErrForm: {99}, api.ErrFull: {20, 3, 3, 1, 1}} {
		r := stream.New(good)
		feed(t, r, bad)
		feed(t, r, good)
		if b := r.Left(); !bytes.Equal(b, slices.Concat(good, bad, good)) {
			t.Errorf("%x is left", b)
		}
		takes(t, "ahead", r, 22, []byte("abc"))
		feed(t, r, []byte{7})
		ended(t, "then", r, want, slices.Concat(bad, good, []byte{7}))
	}
}

// row is records side by side; and they.
func row(seed int) ([]byte, []one) {
	var b []byte
	var list []one
	pick := probe.Bytes(40, seed)
	for i := 0; i+3 < len(pick); i += 4 {
		kind := types[pick[i]%4]
		body := probe.Bytes((int(pick[i+1])<<8|int(pick[i+2]))%(most(kind)+1), i)
		if pick[i]&16 != 0 {
			body = body[:len(body)%4]
		}
		b = append(b, laid(kind, int(pick[i+3]), body)...)
		list = append(list, one{kind, body})
	}
	return b, list
}

// pieces is b, cut by another rule for each seed.
func pieces(b []byte, seed int) [][]byte {
	var out [][]byte
	pick := probe.Bytes(1000, seed)
	for i := 0; len(b) > 0; i++ {
		n := min(int(pick[i%len(pick)])%(1+seed*seed%300), len(b))
		if n == 0 && i%2 == 0 {
			n = 1
		}
		out = append(out, b[:n])
		b = b[n:]
	}
	return out
}

// TestPieces: P13.2; taken between the pieces, behind all, or by one Reader after the other.
func TestPieces(t *testing.T) {
	for seed := range 300 {
		b, want := row(seed)
		begun := laid(23, 3, probe.Bytes(273, seed))[:seed%278]
		b = append(b, begun...)
		whole := stream.New(b)
		got, e := all(whole)
		if !same(got, want) || e != api.OK {
			t.Fatalf("seed %d: %d records, not %d: %d", seed, len(got), len(want), e)
		}
		between, behind, passed := stream.New(nil), stream.New(nil), stream.New(nil)
		var first, third []one
		for _, piece := range pieces(b, seed) {
			feed(t, between, piece)
			feed(t, behind, piece)
			feed(t, passed, piece)
			some, _ := all(between)
			first = append(first, some...)
			if kind, body, ok, _ := passed.Take(); ok {
				third = append(third, one{kind, body})
			}
			passed = stream.New(passed.Left())
		}
		second, _ := all(behind)
		rest, _ := all(passed)
		if !same(first, want) || !same(second, want) || !same(append(third, rest...), want) {
			t.Errorf("seed %d: other records", seed)
		}
		for _, r := range []*stream.Reader{between, behind, passed} {
			stops(t, "the same", r, api.OK, begun)
		}
	}
}

// TestPiecesAheadOfAnError: P13.2; the same records, and the same error.
func TestPiecesAheadOfAnError(t *testing.T) {
	for seed := range 100 {
		b, want := row(seed)
		bad, e := []byte{22, 4}, api.ErrForm
		if seed%2 == 1 {
			bad, e = []byte{21, 3, 3, 1, 1}, api.ErrFull
		}
		between, behind := stream.New(nil), stream.New(nil)
		var first []one
		for _, piece := range pieces(append(b, bad...), seed) {
			feed(t, between, piece)
			feed(t, behind, piece)
			some, _ := all(between)
			first = append(first, some...)
		}
		second, _ := all(behind)
		if !same(first, want) || !same(second, want) {
			t.Errorf("seed %d: other records", seed)
		}
		ended(t, "between", between, e, bad)
		ended(t, "behind", behind, e, bad)
	}
}

// TestLong: P13.1 and P13.2; many records, byte by byte.
func TestLong(t *testing.T) {
	r := stream.New(nil)
	for i := range 3000 {
		b := laid(23, 3, probe.Bytes(i%100, i))
		for k := range b {
			feed(t, r, b[k:k+1])
		}
		takes(t, "one of many", r, 23, probe.Bytes(i%100, i))
	}
	stops(t, "all", r, api.OK, nil)
}

// TestNil: P13.1.
func TestNil(t *testing.T) {
	var r *stream.Reader
	for range 2 {
		stops(t, "nil", r, api.ErrArg, nil)
		for _, b := range [][]byte{nil, {22}, {99}} {
			if e := r.Feed(b); e != api.ErrArg {
				t.Errorf("Feed of %x: %d", b, e)
			}
		}
	}
}

// TestMemory: P13.3; neither answers nor what was handed in are a way into a Reader.
func TestMemory(t *testing.T) {
	b := laid(22, 3, []byte("abc"))
	first, second := probe.Lend(slices.Concat(b, b, b[:4])), probe.Lend(append(b[4:], b...))
	r, other := stream.New(first.Bytes()), stream.New(first.Bytes())
	probe.Spoil(r.Left())
	_, body, _, _ := r.Take()
	probe.Spoil(body)
	probe.Spoil(r.Left())
	feed(t, r, second.Bytes())
	feed(t, other, second.Bytes())
	probe.Spoil(r.Left())
	if !first.Kept() || !second.Kept() {
		t.Error("what was handed in was changed")
	}
	kept, _, _, _ := other.Take()
	_, body, _, _ = other.Take()
	left := r.Left()
	first.Spoil()
	second.Spoil()
	for range 3 {
		takes(t, "the others", r, 22, []byte("abc"))
	}
	stops(t, "all", r, api.OK, nil)
	if kept != 22 || string(body) != "abc" || !bytes.Equal(left, slices.Concat(b, b, b)) {
		t.Errorf("an answer shares memory: %x %x", body, left)
	}
	for range 2 {
		takes(t, "the other Reader", other, 22, []byte("abc"))
	}
	stops(t, "the other Reader", other, api.OK, nil)
}
