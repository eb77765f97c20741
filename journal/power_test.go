package journal_test

import (
	"bytes"
	"math"
	"math/rand"
	"testing"

	"relay/api"
	"relay/disk"
	"relay/journal"
	"relay/probe"
)

// sweep does a call with power going at each byte of each of its Writes, each time on a copy of d; behind it the disk must tell what it did, or next. It answers how many Writes the call has.
func sweep(t *testing.T, what string, d *disk.Disk, next [][]byte, call func(*journal.Journal) api.Errno) int {
	t.Helper()
	was := opened(t, d).Entries()
	for writes := 0; ; writes++ {
		for torn := 0; torn <= 64; torn++ {
			c := d.Copy()
			j := opened(t, c)
			c.Fail(writes, torn)
			e := call(j)
			if e == api.OK {
				c.Up()
				stays(t, what, j, c, next)
				return writes
			}
			if e != api.ErrStop || c.On() {
				t.Fatalf("%s, Fail(%d, %d): %d", what, writes, torn, e)
			}
			ended(t, what+", without power", j, c)
			c.Up()
			ended(t, what+", with power again", j, c)
			want := next
			again := opened(t, c)
			if same(again.Entries(), was) {
				want = was
			}
			stays(t, what+", torn", again, c, want)
		}
	}
}

// TestTornAppend: P11.2, on areas of noughts, of other bytes, and of entries of another time.
func TestTornAppend(t *testing.T) {
	for _, b := range [][]byte{probe.Bytes(1, 1), probe.Bytes(46, 2), probe.Bytes(47, 3), probe.Bytes(175, 4), bytes.Repeat([]byte{0}, 120)} {
		for _, d := range []*disk.Disk{
			made(t, 22, 0), made(t, 22, 2, probe.Bytes(64*20, 9)), made(t, 22, 2, bytes.Repeat([]byte{0xff}, 64*20)),
			made(t, 22, 0, slot(6, 1), slot(7, 0), area(7, 10, entries(1, 46, 100, 300, 1)...)),
		} {
			j := formatted(t, d)
			for j.Room() >= journal.Need(len(b)) && len(j.Entries()) < 3 {
				list := j.Entries()
				n := sweep(t, "Append", d, append(list, b), func(j *journal.Journal) api.Errno { return j.Append(b) })
				if n != journal.Need(len(b)) {
					t.Errorf("%d bytes: %d Writes", len(b), n)
				}
				do(t, "Append", j.Append(b))
			}
		}
	}
}

// TestTornCompact: P11.2, behind whatever the other area holds.
func TestTornCompact(t *testing.T) {
	d := made(t, 13, 0) // areas of 5 sectors
	j := formatted(t, d)
	do(t, "Append", j.Append([]byte("first")))
	do(t, "Append", j.Append(probe.Bytes(47, 2)))
	for i, keep := range [][][]byte{{[]byte("first")}, {}, entries(1, 100, 46, 1), {probe.Bytes(200, 1)}, {[]byte("a"), []byte("b"), []byte("c"), []byte("d"), []byte("e")}} {
		n := sweep(t, "Compact", d, keep, func(j *journal.Journal) api.Errno { return j.Compact(keep) })
		if n != 6 {
			t.Errorf("Compact %d: %d Writes", i, n)
		}
		do(t, "Compact", j.Compact(keep))
	}
}

// TestTriesLeaveNothing: P11.2; of a Compact in which power went nothing is told, however often it is tried.
func TestTriesLeaveNothing(t *testing.T) {
	list := entries(7, 46, 46, 46, 46, 46, 46)
	for writes := range 9 {
		d := made(t, 18, 0) // areas of 8 sectors
		j := formatted(t, d)
		do(t, "Append", j.Append([]byte("first")))
		d.Fail(writes, 5)
		if e := j.Compact(list); e != api.ErrStop {
			t.Fatalf("Fail(%d, 5): %d", writes, e)
		}
		d.Up()
		j = opened(t, d)
		tells(t, "behind a try", j, 8, [][]byte{[]byte("first")})
		do(t, "Compact", j.Compact(list[3:5]))
		stays(t, "behind a try", j, d, list[3:5])
		do(t, "Append", j.Append([]byte("more")))
		stays(t, "behind a try", j, d, append(list[3:5:5], []byte("more")))
	}
}

// TestFormatLeavesNothing: P11.1; what a Compact in which power went left of that generation isn't told behind a Format.
func TestFormatLeavesNothing(t *testing.T) {
	list := entries(7, 46, 46, 46, 46)
	d := made(t, 18, 0)
	j := formatted(t, d)
	do(t, "Compact", j.Compact(nil))
	d.Fail(8, 0)
	if e := j.Compact(list); e != api.ErrStop {
		t.Fatal(e)
	}
	d.Up()
	goOn(t, "behind a try", d)
	d = made(t, 18, 2, area(1, 8, list...), probe.Bytes(64*8, 1))
	goOn(t, "where both slots are lost", d)
}

// goOn formats a disk, and appends entries one by one.
func goOn(t *testing.T, what string, d *disk.Disk) {
	t.Helper()
	j := formatted(t, d)
	stays(t, what, j, d, nil)
	list := entries(8, 46, 1, 46, 110)
	for i, b := range list {
		do(t, what, j.Append(b))
		stays(t, what, j, d, list[:i+1])
	}
}

// TestTornLeavesNothing: P11.2; what a torn entry left behind isn't told, even where it looks like the next one.
func TestTornLeavesNothing(t *testing.T) {
	d := made(t, 22, 0)
	j := formatted(t, d)
	do(t, "Append", j.Append([]byte("first")))
	b := append(probe.Bytes(46, 1), entry(1, 2, []byte("not one"))...)
	b = append(b, probe.Bytes(100, 2)...)
	d.Fail(2, 64)
	if e := j.Append(b); e != api.ErrStop {
		t.Fatal(e)
	}
	d.Up()
	list := [][]byte{[]byte("first"), []byte("second")}
	sweep(t, "Append", d, list, func(j *journal.Journal) api.Errno { return j.Append(list[1]) })
	j = opened(t, d)
	do(t, "Append", j.Append(list[1]))
	stays(t, "behind a torn one", j, d, list)
}

// TestPowerIsGone: P11.1; a call that writes ends the journal, others don't.
func TestPowerIsGone(t *testing.T) {
	for what, call := range map[string]func(*journal.Journal) api.Errno{
		"Append":             func(j *journal.Journal) api.Errno { return j.Append([]byte("more")) },
		"Append of the rest": func(j *journal.Journal) api.Errno { return j.Append(probe.Bytes(500, 1)) },
		"Compact":            func(j *journal.Journal) api.Errno { return j.Compact([][]byte{{1}}) },
		"Compact of nothing": func(j *journal.Journal) api.Errno { return j.Compact(nil) },
	} {
		d := made(t, 22, 0)
		j := formatted(t, d)
		do(t, "Append", j.Append([]byte("first")))
		gone(d)
		tells(t, "without power", j, 10, [][]byte{[]byte("first")})
		if e := call(j); e != api.ErrStop {
			t.Errorf("%s: %d", what, e)
		}
		ended(t, what, j, d)
		d.Up()
		ended(t, what+", with power again", j, d)
		tells(t, what, opened(t, d), 10, [][]byte{[]byte("first")})
	}
}

// TestGreatestGeneration: P11.2 holds where generations go round.
func TestGreatestGeneration(t *testing.T) {
	first := [][]byte{[]byte("first")}
	for _, generation := range []uint64{math.MaxUint64 - 1, math.MaxUint64} {
		slots := [2][]byte{make([]byte, 64), make([]byte, 64)}
		slots[generation%2] = slot(generation, 1)
		d := made(t, 12, 0, slots[0], slots[1], area(3, 5), area(generation, 5, first...))
		for i := range 3 {
			keep := entries(i, 60, 1)
			sweep(t, "Compact", d, keep, func(j *journal.Journal) api.Errno { return j.Compact(keep) })
			j := opened(t, d)
			do(t, "Compact", j.Compact(keep))
			stays(t, "compacted", j, d, keep)
		}
	}
}

// TestSlotInTheOtherSector: P11.2 holds for a slot that stands where its generation's doesn't.
func TestSlotInTheOtherSector(t *testing.T) {
	first, keep := [][]byte{[]byte("first")}, entries(1, 60, 1)
	for _, d := range []*disk.Disk{
		made(t, 12, 0, slot(5, 1), slot(3, 0), area(3, 5), area(5, 5, first...)),
		made(t, 12, 0, slot(3, 1), slot(4, 0), area(4, 5, first...)),
		made(t, 12, 0, slot(math.MaxUint64, 0), slot(9, 1), area(math.MaxUint64, 5, first...)),
	} {
		tells(t, "at first", opened(t, d), 5, first)
		sweep(t, "Compact", d, keep, func(j *journal.Journal) api.Errno { return j.Compact(keep) })
		j := opened(t, d)
		do(t, "Compact", j.Compact(keep))
		stays(t, "compacted", j, d, keep)
	}
}

// TestLongRuns: P11.1 to P11.3, in long rows of calls, with power going anywhere.
func TestLongRuns(t *testing.T) {
	for seed := range int64(40) {
		r := rand.New(rand.NewSource(seed))
		d := made(t, 20+r.Intn(40), 0)
		j := formatted(t, d)
		size := (d.Size() - 2) / 2
		var list [][]byte
		for range 120 {
			if r.Intn(3) == 0 {
				d.Fail(r.Intn(size), r.Intn(65))
			}
			was := list
			e := step(r, j, &list)
			if full := sectors(list) > size; full != (e == api.ErrFull) {
				t.Fatalf("seed %d: %d, of %d sectors %d are wanted", seed, e, size, sectors(list))
			}
			switch {
			case e == api.ErrFull:
				list = was
			case e == api.ErrStop:
				ended(t, "a long run", j, d)
				d.Up()
				j = opened(t, d)
				if !same(j.Entries(), list) {
					list = was
				}
			}
			d.Up()
			stays(t, "a long run", j, d, list)
		}
	}
}

// step appends an entry or compacts; list is then what there should be.
func step(r *rand.Rand, j *journal.Journal, list *[][]byte) api.Errno {
	if r.Intn(5) > 0 {
		b := probe.Bytes(1+r.Intn(300), r.Int())
		*list = append((*list)[:len(*list):len(*list)], b)
		return j.Append(b)
	}
	var keep [][]byte
	for _, b := range *list {
		if r.Intn(2) == 0 {
			keep = append(keep, b)
		}
	}
	*list = keep
	return j.Compact(keep)
}
