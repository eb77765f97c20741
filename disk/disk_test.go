package disk_test

import (
	"bytes"
	"math"
	"slices"
	"testing"

	"relay/api"
	"relay/disk"
	"relay/probe"
)

// made is a disk of so many sectors.
func made(t *testing.T, sectors int) *disk.Disk {
	t.Helper()
	d, e := disk.New(sectors)
	if e != api.OK {
		t.Fatalf("%d sectors: %d", sectors, e)
	}
	return d
}

// filled is a disk, of whose sectors each has other bytes.
func filled(t *testing.T, sectors int) *disk.Disk {
	t.Helper()
	d := made(t, sectors)
	for i := range sectors {
		if e := d.Write(i, probe.Bytes(64, 100+i)); e != api.OK {
			t.Fatalf("sector %d: %d", i, e)
		}
	}
	return d
}

// look holds a disk against what it should tell.
func look(t *testing.T, what string, d *disk.Disk, on bool, size, writes int) {
	t.Helper()
	if d.On() != on || d.Size() != size || d.Writes() != writes {
		t.Errorf("%s: %v, %d sectors, %d writes; not %v, %d, %d", what, d.On(), d.Size(), d.Writes(), on, size, writes)
	}
}

// TestNew: P10.1, and its edges.
func TestNew(t *testing.T) {
	for _, n := range []int{1, 2, 63, 511, 512} {
		d := made(t, n)
		look(t, "new", d, true, n, 0)
		if b := probe.Image(d); !bytes.Equal(b, make([]byte, 64*n)) {
			t.Errorf("%d sectors aren't noughts", n)
		}
	}
	for _, n := range []int{0, -1, 513, 1 << 20, math.MinInt, math.MaxInt} {
		if d, e := disk.New(n); d != nil || e != api.ErrArg {
			t.Errorf("%d sectors: %v %d", n, d, e)
		}
	}
}

// TestReadWrite: P10.1; a sector has the bytes that were written last, and the others stay.
func TestReadWrite(t *testing.T) {
	d := filled(t, 5)
	look(t, "filled", d, true, 5, 5)
	for i := range 5 {
		if b, e := d.Read(i); !bytes.Equal(b, probe.Bytes(64, 100+i)) || e != api.OK {
			t.Errorf("sector %d: %x %d", i, b, e)
		}
	}
	want := probe.Image(d)
	for n, i := range []int{4, 0, 2, 2} {
		b := probe.Bytes(64, 200+n)
		copy(want[64*i:], b)
		if e := d.Write(i, b); e != api.OK || !bytes.Equal(probe.Image(d), want) {
			t.Errorf("sector %d: %d", i, e)
		}
		look(t, "written", d, true, 5, 6+n)
	}
}

// wrongs are Writes that are refused, with power or without, of a disk of 3 sectors.
var wrongs = []struct{ sector, size int }{
	{-1, 64}, {3, 64}, {512, 64}, {math.MinInt, 64}, {math.MaxInt, 64},
	{0, 0}, {1, 63}, {2, 65}, {0, 128}, {3, 63}, {-1, 0},
}

// TestRefused: P10.1; what is refused is told in the table's order, and changes nothing: not even where power goes.
func TestRefused(t *testing.T) {
	d := filled(t, 3)
	d.Fail(1, 7)
	was := probe.Image(d)
	refuse := func(want api.Errno, writes int) {
		t.Helper()
		for _, c := range wrongs {
			if e := d.Write(c.sector, make([]byte, c.size)); e != want {
				t.Errorf("sector %d, %d bytes: %d", c.sector, c.size, e)
			}
			if b, e := d.Read(c.sector); (c.sector < 0 || c.sector > 2) && (len(b) != 0 || e != want) {
				t.Errorf("sector %d: %x %d", c.sector, b, e)
			}
			look(t, "refused", d, want == api.ErrArg, 3, writes)
		}
		if !bytes.Equal(probe.Image(d), was) {
			t.Error("what is refused is written")
		}
	}
	refuse(api.ErrArg, 3)
	good, torn := d.Write(0, was[:64]), d.Write(1, was[64:128])
	if good != api.OK || torn != api.ErrStop {
		t.Errorf("what is refused counts as a Write: %d %d", good, torn)
	}
	refuse(api.ErrStop, 5)
	for i := range 3 {
		if b, e := d.Read(i); len(b) != 0 || e != api.ErrStop {
			t.Errorf("sector %d without power: %x %d", i, b, e)
		}
		if e := d.Write(i, make([]byte, 64)); e != api.ErrStop {
			t.Errorf("sector %d without power: %d", i, e)
		}
	}
	look(t, "without power", d, false, 3, 5)
	d.Up()
	look(t, "with power", d, true, 3, 5)
	if !bytes.Equal(probe.Image(d), was) {
		t.Error("without power something is written")
	}
}

// TestFail: P10.1, of all counts of bytes; behind so many good Writes one is torn.
func TestFail(t *testing.T) {
	for torn := -2; torn <= 67; torn++ {
		for writes := range 4 {
			d := filled(t, 6)
			want := probe.Image(d)
			d.Fail(writes, torn)
			for i := range writes {
				copy(want[64*i:], probe.Bytes(64, i))
				if e := d.Write(i, probe.Bytes(64, i)); e != api.OK || !d.On() {
					t.Errorf("Fail(%d, %d), Write %d: %d", writes, torn, i, e)
				}
			}
			copy(want[64*5:], probe.Bytes(64, 9)[:min(max(torn, 0), 64)])
			if e := d.Write(5, probe.Bytes(64, 9)); e != api.ErrStop {
				t.Errorf("Fail(%d, %d): %d", writes, torn, e)
			}
			look(t, "torn", d, false, 6, 6+writes+1)
			if !bytes.Equal(probe.Image(d), want) {
				t.Errorf("Fail(%d, %d): other bytes are written", writes, torn)
			}
		}
	}
}

// TestExample: the chapter's first one.
func TestExample(t *testing.T) {
	d := made(t, 1)
	d.Fail(0, 10)
	if e := d.Write(0, bytes.Repeat([]byte{0xff}, 64)); e != api.ErrStop {
		t.Error(e)
	}
	d.Up()
	want := append(bytes.Repeat([]byte{0xff}, 10), make([]byte, 54)...)
	if b, e := d.Read(0); !bytes.Equal(b, want) || e != api.OK {
		t.Errorf("%x %d", b, e)
	}
}

// TestFailOfGreatNumbers: P10.1; the nearer count of bytes is taken.
func TestFailOfGreatNumbers(t *testing.T) {
	for torn, want := range map[int]int{math.MinInt: 0, math.MaxInt: 64} {
		d := made(t, 1)
		d.Fail(0, torn)
		if e := d.Write(0, bytes.Repeat([]byte{1}, 64)); e != api.ErrStop || bytes.Count(probe.Image(d), []byte{1}) != want {
			t.Errorf("torn %d: %d, %x", torn, e, probe.Image(d))
		}
	}
	for _, writes := range []int{-1, -2, math.MinInt, math.MaxInt} {
		d := made(t, 1)
		d.Fail(writes, 3)
		for range 100 {
			if e := d.Write(0, probe.Bytes(64, 1)); e != api.OK {
				t.Fatalf("Fail(%d, 3): %d", writes, e)
			}
		}
	}
}

// goesAt is the how manieth of ten Writes is torn, and how many bytes of it are written; none: 10, 0.
func goesAt(d *disk.Disk) (int, int) {
	for i := range 10 {
		if d.Write(0, make([]byte, 64)) != api.OK || d.Write(0, bytes.Repeat([]byte{1}, 64)) != api.OK {
			d.Up()
			b, _ := d.Read(0)
			return i, bytes.Count(b, []byte{1})
		}
	}
	return 10, 0
}

// TestEachFailStandsAlone: P10.1; a Fail stands in place of the one ahead, and Up takes it away.
func TestEachFailStandsAlone(t *testing.T) {
	for _, c := range []struct {
		what     string
		do       func(*disk.Disk)
		at, torn int
	}{
		{"once", func(d *disk.Disk) { d.Fail(5, 3) }, 2, 3},
		{"a later one", func(d *disk.Disk) { d.Fail(1, 9); d.Fail(7, 4) }, 3, 4},
		{"an earlier one", func(d *disk.Disk) { d.Fail(9, 9); d.Fail(3, 64) }, 1, 64},
		{"never", func(d *disk.Disk) { d.Fail(1, 9); d.Fail(-1, 4) }, 10, 0},
		{"up", func(d *disk.Disk) { d.Fail(1, 9); d.Up() }, 10, 0},
		{"up, and again", func(d *disk.Disk) { d.Fail(1, 9); d.Up(); d.Fail(3, 2) }, 1, 2},
		{"counted from here on", func(d *disk.Disk) { d.Fail(2, 9); d.Write(0, make([]byte, 64)); d.Fail(1, 5) }, 0, 5},
		{"while power is gone", func(d *disk.Disk) { d.Fail(0, 9); d.Write(0, make([]byte, 64)); d.Fail(1, 5); d.Up() }, 10, 0},
		{"behind one that struck", func(d *disk.Disk) { d.Fail(0, 9); d.Write(0, make([]byte, 64)); d.Up() }, 10, 0},
		{"struck, and again", func(d *disk.Disk) { d.Fail(0, 9); d.Write(0, make([]byte, 64)); d.Up(); d.Fail(1, 6) }, 0, 6},
	} {
		d := made(t, 1)
		c.do(d)
		if !d.On() {
			t.Errorf("%s: there is no power", c.what)
		}
		if at, torn := goesAt(d); at != c.at || torn != c.torn {
			t.Errorf("%s: pair %d, %d bytes; not %d, %d", c.what, at, torn, c.at, c.torn)
		}
	}
}

// TestFailAloneTakesNoPower: P10.1; power goes in a Write, not in Fail or Read.
func TestFailAloneTakesNoPower(t *testing.T) {
	d := made(t, 1)
	d.Fail(0, 3)
	if b, e := d.Read(0); len(b) != 64 || e != api.OK || !d.On() || d.Writes() != 0 {
		t.Errorf("%x %d", b, e)
	}
}

// TestCopy: P10.1; a copy is the same, Fail and all, and goes its own way.
func TestCopy(t *testing.T) {
	d := filled(t, 2)
	d.Fail(1, 5)
	was := probe.Image(d)
	c := d.Copy()
	look(t, "the copy", c, true, 2, 2)
	if a, b := c.Write(0, make([]byte, 64)), c.Write(1, make([]byte, 64)); a != api.OK || b != api.ErrStop {
		t.Errorf("the copy's Fail: %d %d", a, b)
	}
	look(t, "the copy", c, false, 2, 4)
	look(t, "the disk", d, true, 2, 2)
	if !bytes.Equal(probe.Image(d), was) {
		t.Error("what is written on a copy is written on its disk")
	}
	if b := probe.Image(c); !bytes.Equal(b, slices.Concat(make([]byte, 64+5), was[64+5:])) {
		t.Errorf("%x", b)
	}
	gone := c.Copy()
	look(t, "a copy without power", gone, false, 2, 4)
	c.Up()
	look(t, "a copy without power", gone, false, 2, 4)
	if a, b := d.Write(1, make([]byte, 64)), d.Write(0, make([]byte, 64)); a != api.OK || b != api.ErrStop {
		t.Errorf("the disk's Fail: %d %d", a, b)
	}
	if !bytes.Equal(probe.Image(gone), slices.Concat(make([]byte, 64+5), was[64+5:])) {
		t.Error("what is written on a disk is written on its copy")
	}
}

// TestNil: P10.1.
func TestNil(t *testing.T) {
	var d *disk.Disk
	d.Fail(0, 0)
	d.Up()
	look(t, "nil", d, false, 0, 0)
	for _, i := range []int{-1, 0, 1} {
		if b, e := d.Read(i); b != nil || e != api.ErrArg {
			t.Errorf("%x %d", b, e)
		}
		if e := d.Write(i, make([]byte, 64)); e != api.ErrArg {
			t.Error(e)
		}
	}
	if d.Copy() != nil {
		t.Error("nil has a copy")
	}
}

// TestMemory: P10.2.
func TestMemory(t *testing.T) {
	d := made(t, 2)
	lent := probe.Lend(probe.Bytes(64, 1))
	d.Write(1, lent.Bytes())
	d.Fail(0, 20)
	d.Write(0, lent.Bytes())
	d.Up()
	d.Write(2, lent.Bytes())
	if !lent.Kept() {
		t.Error("what was handed in was changed")
	}
	lent.Spoil()
	first, _ := d.Read(1)
	second, _ := d.Read(1)
	probe.Spoil(first)
	third, _ := d.Read(1)
	if want := probe.Bytes(64, 1); !bytes.Equal(second, want) || !bytes.Equal(third, want) {
		t.Error("an answer shares memory with the disk, or with another one")
	}
	if b, _ := d.Read(0); !bytes.Equal(b, append(probe.Bytes(64, 1)[:20:20], make([]byte, 44)...)) {
		t.Error("what was handed in is kept")
	}
}
