package snap_test

import (
	"bytes"
	"math"
	"slices"
	"testing"

	"relay/api"
	"relay/probe"
	"relay/server"
	"relay/snap"
)

// versions are all that there are; others are some that aren't, also those whose lowest byte is one's.
var (
	versions = []int{1, 2, 3}
	others   = []int{math.MinInt, -255, -1, 0, 4, 5, 255, 256, 257, 258, 259, 1<<32 + 1, math.MaxInt}
)

// TestVersions: P18.1.
func TestVersions(t *testing.T) {
	if snap.Oldest != 1 || snap.Newest != 3 {
		t.Error(snap.Oldest, snap.Newest)
	}
}

// TestExample: P18.1.
func TestExample(t *testing.T) {
	b, e := snap.Put(server.New(), 1)
	if len(b) != 237 || e != api.OK {
		t.Errorf("%d bytes, %d", len(b), e)
	}
}

// TestPutAndGet: P18.1 and P18.2, of all fields' edges and all versions.
func TestPutAndGet(t *testing.T) {
	for i, s := range states() {
		if !snap.Right(s) {
			t.Fatalf("State %d isn't Right", i)
		}
		for _, version := range versions {
			b, e := snap.Put(s, version)
			if !bytes.Equal(b, laid(s, version)) || e != api.OK {
				t.Fatalf("State %d, version %d: %x, %d", i, version, b, e)
			}
			x, n, e := snap.Get(b)
			if !same(x, seen(s, version)) || n != version || e != api.OK {
				t.Fatalf("State %d, version %d: %v, %d, %d", i, version, x, n, e)
			}
			u, e := snap.Upgrade(b)
			if !bytes.Equal(u, laid(seen(s, version), 3)) || e != api.OK {
				t.Fatalf("State %d, version %d: upgraded to %x, %d", i, version, u, e)
			}
			if again, e := snap.Upgrade(u); !bytes.Equal(again, u) || e != api.OK {
				t.Fatalf("State %d, version %d: upgraded again to %x, %d", i, version, again, e)
			}
		}
	}
}

// wrongStates are some of which one field can't be so.
func wrongStates() []server.State {
	var out []server.State
	for _, s := range []server.State{server.New(), full(5)} {
		for _, n := range []int{math.MinInt, -256, -1, 5, 6, 255, 256, 257, 1 << 32, math.MaxInt} {
			out = append(out, with(s, func(s *server.State) { s.Phase = n }))
		}
		for _, n := range []int{math.MinInt, -256, -1, 65, 66, 255, 256, 257, 1 << 32, math.MaxInt} {
			out = append(out, with(s, func(s *server.State) { s.InSeq = n }), with(s, func(s *server.State) { s.OutSeq = n }))
		}
		for _, n := range []int{math.MinInt, -65536, -1, 65536, 65537, 1 << 32, math.MaxInt} {
			out = append(out, with(s, func(s *server.State) { s.InEpoch = n }), with(s, func(s *server.State) { s.OutEpoch = n }))
		}
		for _, n := range []int{math.MinInt, -65537, -2, 256, 257, 65535, 65536, 1<<32 + 1, math.MaxInt} {
			out = append(out, with(s, func(s *server.State) { s.Alert = n }))
		}
		for _, n := range []int{logSize + 1, 65535, 65536, 1 << 20} {
			out = append(out, with(s, func(s *server.State) { s.Log = make([]byte, n) }))
		}
		for _, n := range []int{partSize + 1, 65535, 65536, 1 << 20} {
			out = append(out, with(s, func(s *server.State) { s.Part = make([]byte, n) }))
		}
		for _, n := range []int{usedSize + 1, 257, 65535, 65536, 1 << 20} {
			out = append(out, with(s, func(s *server.State) { s.Used = make([]byte, n) }))
		}
	}
	return out
}

// TestPutRefuses: P18.1; what an older version hasn't must be right all the same.
func TestPutRefuses(t *testing.T) {
	for i, s := range wrongStates() {
		if snap.Right(s) {
			t.Errorf("wrong State %d is Right", i)
		}
		for _, version := range slices.Concat(versions, others) {
			if b, e := snap.Put(s, version); len(b) != 0 || e != api.ErrArg {
				t.Errorf("wrong State %d, version %d: %x, %d", i, version, b, e)
			}
		}
	}
	for _, version := range others {
		for _, s := range []server.State{server.New(), full(1)} {
			if b, e := snap.Put(s, version); len(b) != 0 || e != api.ErrArg {
				t.Errorf("version %d: %x, %d", version, b, e)
			}
		}
	}
}

// refused holds Get and Upgrade of b against an error.
func refused(t *testing.T, what string, b []byte, want api.Errno) {
	t.Helper()
	s, n, e := snap.Get(b)
	if !same(s, server.State{}) || n != 0 || e != want {
		t.Errorf("%s: %v, %d, %d, not %d", what, s, n, e, want)
	}
	if u, e := snap.Upgrade(b); len(u) != 0 || e != want {
		t.Errorf("%s is upgraded to %x, %d, not %d", what, u, e, want)
	}
}

// TestBytesThatLack: P18.1, at each place; and a byte more.
func TestBytesThatLack(t *testing.T) {
	for _, s := range []server.State{server.New(), full(2), with(full(3), func(s *server.State) { s.Part = nil })} {
		for _, version := range versions {
			b := laid(s, version)
			for n := range b {
				refused(t, "a part", b[:n], api.ErrShort)
			}
			refused(t, "a byte more", append(bytes.Clone(b), 0), api.ErrForm)
			refused(t, "two", append(bytes.Clone(b), b...), api.ErrForm)
		}
	}
	refused(t, "nothing", nil, api.ErrShort)
}

// TestOtherVersions: P18.1; what stands behind a version that isn't one doesn't count.
func TestOtherVersions(t *testing.T) {
	for first := range 256 {
		if first >= 1 && first <= 3 {
			continue
		}
		for _, version := range versions {
			b := laid(full(1), version)
			b[0] = byte(first)
			refused(t, "another version", b, api.ErrForm)
			refused(t, "another version, and a byte more", append(b, 1), api.ErrForm)
			refused(t, "a part of another version", b[:30], api.ErrForm)
		}
		refused(t, "another version alone", []byte{byte(first)}, api.ErrForm)
	}
}

// TestVersionsOfOthersBytes: P18.1; a version's bytes under another one's number.
func TestVersionsOfOthersBytes(t *testing.T) {
	for _, s := range []server.State{server.New(), full(1)} {
		for _, version := range versions {
			for _, first := range versions {
				b := laid(s, version)
				b[0] = byte(first)
				if first < version {
					refused(t, "bytes of a newer version", b, api.ErrForm)
				}
				if first > version {
					refused(t, "bytes of an older version", b, api.ErrShort)
				}
			}
		}
	}
}

// place is a number of a snapshot: where it stands from the begin on (from the end on, if below 0), in how many bytes, up to which one it may be.
type place struct {
	what            string
	at, width, most int
}

// TestNumbersThatCantBe: P18.1; with bytes that lack behind, those are told.
func TestNumbersThatCantBe(t *testing.T) {
	s := with(full(1), func(s *server.State) { s.Log, s.Part = nil, nil })
	places := []place{
		{"Phase", 1, 1, 4},
		{"InSeq", secretsAt + 7*32, 1, 64},
		{"OutSeq", secretsAt + 7*32 + 1, 1, 64},
		{"Sealed", secretsAt + 7*32 + 6, 1, 1},
		{"Alert", -2, 2, 256},
	}
	for _, p := range places {
		for n := range 1 << (8 * p.width) {
			b := laid(s, 3)
			at := (p.at + len(b)) % len(b)
			b[at] = byte(n >> (8 * (p.width - 1)))
			b[at+p.width-1] = byte(n)
			if n > p.most {
				refused(t, p.what, b, api.ErrForm)
				refused(t, p.what+" and bytes that lack", b[:len(b)-1], api.ErrShort)
				refused(t, p.what+" and a byte more", append(b, 0), api.ErrForm)
				continue
			}
			x, _, e := snap.Get(b)
			if u, _ := snap.Put(x, 3); !bytes.Equal(u, b) || e != api.OK {
				t.Errorf("%s %d: %v, %d", p.what, n, x, e)
			}
		}
	}
}

// TestCountsThatCantBe: P18.1, of both lists that may have more than their counts tell.
func TestCountsThatCantBe(t *testing.T) {
	for _, version := range versions {
		for _, n := range []int{logSize + 1, logSize + 2, 40000, 65535} {
			refused(t, "Log", laid(server.State{Log: make([]byte, n), Alert: -1}, version), api.ErrForm)
		}
		for _, n := range []int{partSize + 1, partSize + 2, 20000, 65535} {
			refused(t, "Part", laid(server.State{Part: make([]byte, n), Alert: -1}, version), api.ErrForm)
		}
	}
}

// TestBentBytes: P18.1; whatever Get reads is what Put tells of it, and with an error there is nothing.
func TestBentBytes(t *testing.T) {
	for _, version := range versions {
		b := laid(full(version), version)
		for at := range b {
			for _, by := range []byte{1, 2, 4, 16, 64, 128, 255} {
				c := bytes.Clone(b)
				c[at] ^= by
				holds(t, c)
			}
		}
	}
	for seed := range 3000 {
		b := probe.Bytes(seed%300, seed)
		if len(b) > headSize+2 {
			copy(b, []byte{byte(seed % 5), byte(seed % 7), 0, byte(seed % 11)})
		}
		holds(t, b)
	}
}

// holds: is b what Put tells of Get's State, or an error with nothing?
func holds(t *testing.T, b []byte) {
	t.Helper()
	s, version, e := snap.Get(b)
	switch e {
	case api.OK:
		if !snap.Right(s) || !slices.Contains(versions, version) || !bytes.Equal(laid(s, version), b) {
			t.Errorf("%x: %v, %d", b, s, version)
		}
	case api.ErrShort, api.ErrForm:
		refused(t, "bent", b, e)
	default:
		t.Errorf("%x: %d", b, e)
	}
}

// TestMemory: P18.3.
func TestMemory(t *testing.T) {
	for _, version := range versions {
		s := full(1)
		lent := []probe.Lent{probe.Lend(s.Log), probe.Lend(s.Part), probe.Lend(s.Used)}
		s.Log, s.Part, s.Used = lent[0].Bytes(), lent[1].Bytes(), lent[2].Bytes()
		b, _ := snap.Put(s, version)
		snap.Right(s)
		spoiled(t, lent...)
		if !bytes.Equal(b, laid(full(1), version)) {
			t.Errorf("version %d: Put keeps what was handed in", version)
		}
		in := probe.Lend(b)
		x, _, _ := snap.Get(in.Bytes())
		u, _ := snap.Upgrade(in.Bytes())
		spoiled(t, in)
		if !same(x, seen(full(1), version)) || !bytes.Equal(u, laid(seen(full(1), version), 3)) {
			t.Errorf("version %d: Get or Upgrade keeps what was handed in", version)
		}
		probe.Spoil(x.Log)
		probe.Spoil(x.Part)
		if want := seen(full(1), version); !bytes.Equal(x.Used, want.Used) {
			t.Errorf("version %d: two lists share memory", version)
		}
	}
}

// spoiled: are all lent bytes as they were? They are others behind.
func spoiled(t *testing.T, all ...probe.Lent) {
	t.Helper()
	for i, l := range all {
		if !l.Kept() {
			t.Errorf("list %d was changed", i)
		}
		l.Spoil()
	}
}
