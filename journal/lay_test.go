package journal_test

import (
	"bytes"
	"crypto/sha256"
	"encoding/binary"
	"slices"
	"testing"

	"relay/api"
	"relay/disk"
	"relay/journal"
	"relay/probe"
)

// slot and entry are the bytes that should stand on a disk, laid by another library's sum.
func slot(generation uint64, area byte) []byte {
	b := append(binary.BigEndian.AppendUint64([]byte("RLAY"), generation), area)
	return signed(append(b, make([]byte, 32-len(b))...))
}

// signed is 32 bytes and their sum.
func signed(b []byte) []byte {
	sum := sha256.Sum256(b)
	return append(bytes.Clone(b), sum[:]...)
}

func entry(generation uint64, number int, b []byte) []byte {
	sum := sha256.New()
	count := binary.BigEndian.AppendUint16(nil, uint16(len(b)))
	sum.Write(binary.BigEndian.AppendUint64(nil, generation))
	sum.Write(binary.BigEndian.AppendUint32(nil, uint32(number)))
	sum.Write(count)
	sum.Write(b)
	out := slices.Concat(sum.Sum(nil)[:16], count, b)
	for len(out)%64 != 0 {
		out = append(out, 0)
	}
	return out
}

// area is all entries of a generation, and noughts up to so many sectors.
func area(generation uint64, sectors int, list ...[]byte) []byte {
	var out []byte
	for i, b := range list {
		out = append(out, entry(generation, i, b)...)
	}
	return append(out, make([]byte, 64*sectors-len(out))...)
}

// made is a disk on which b stands from a sector on; its Writes aren't 0.
func made(t *testing.T, sectors, from int, b ...[]byte) *disk.Disk {
	t.Helper()
	d, e := disk.New(sectors)
	if e != api.OK {
		t.Fatal(e)
	}
	lay(t, d, from, b...)
	return d
}

func lay(t *testing.T, d *disk.Disk, from int, b ...[]byte) {
	t.Helper()
	for part := range slices.Chunk(slices.Concat(b...), 64) {
		if e := d.Write(from, part); e != api.OK {
			t.Fatalf("sector %d: %d", from, e)
		}
		from++
	}
}

// formatted is a journal without entries.
func formatted(t *testing.T, d *disk.Disk) *journal.Journal {
	t.Helper()
	j, e := journal.Format(d)
	if e != api.OK || j == nil {
		t.Fatalf("Format: %d", e)
	}
	return j
}

// opened is what a disk tells; opening writes nothing.
func opened(t *testing.T, d *disk.Disk) *journal.Journal {
	t.Helper()
	was, writes := probe.Image(d), d.Writes()
	j, e := journal.Open(d)
	if e != api.OK || j == nil {
		t.Fatalf("Open: %d", e)
	}
	if d.Writes() != writes || !bytes.Equal(probe.Image(d), was) {
		t.Error("Open writes")
	}
	return j
}

// do wants a call to be well.
func do(t *testing.T, what string, e api.Errno) {
	t.Helper()
	if e != api.OK {
		t.Fatalf("%s: %d", what, e)
	}
}

// entries is bytes of these lengths, others for each seed.
func entries(seed int, sizes ...int) [][]byte {
	var out [][]byte
	for i, n := range sizes {
		out = append(out, probe.Bytes(n, 1000*seed+i))
	}
	return out
}

func same(a, b [][]byte) bool { return slices.EqualFunc(a, b, bytes.Equal) }

// sectors is how many a list's entries take.
func sectors(list [][]byte) int {
	n := 0
	for _, b := range list {
		n += (len(b) + 18 + 63) / 64
	}
	return n
}

// tells holds a journal against its entries, on an area of so many sectors.
func tells(t *testing.T, what string, j *journal.Journal, size int, want [][]byte) {
	t.Helper()
	if l := j.Entries(); !same(l, want) || j.Room() != size-sectors(want) {
		t.Errorf("%s: %x, room %d; not %x, room %d", what, l, j.Room(), want, size-sectors(want))
	}
}

// stays holds a journal, and what is opened twice on its disk, against its entries.
func stays(t *testing.T, what string, j *journal.Journal, d *disk.Disk, want [][]byte) {
	t.Helper()
	size := (d.Size() - 2) / 2
	tells(t, what, j, size, want)
	tells(t, what+", opened", opened(t, d), size, want)
	tells(t, what+", opened again", opened(t, d), size, want)
}

// ended: all calls of a journal tell ErrStop, in whatever state its disk is.
func ended(t *testing.T, what string, j *journal.Journal, d *disk.Disk) {
	t.Helper()
	was, writes := probe.Image(d), d.Writes()
	for _, b := range [][]byte{nil, {1}, make([]byte, 4096), make([]byte, 4097)} {
		if a, c := j.Append(b), j.Compact([][]byte{b}); a != api.ErrStop || c != api.ErrStop {
			t.Errorf("%s, %d bytes: Append %d, Compact %d", what, len(b), a, c)
		}
	}
	if e := j.Compact(nil); e != api.ErrStop || len(j.Entries()) != 0 || j.Room() != 0 {
		t.Errorf("%s: %d, %x, room %d", what, e, j.Entries(), j.Room())
	}
	if d.Writes() != writes || !bytes.Equal(probe.Image(d), was) {
		t.Errorf("%s: a journal that ended writes", what)
	}
}
