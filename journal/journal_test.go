package journal_test

import (
	"bytes"
	"math"
	"slices"
	"testing"

	"relay/api"
	"relay/disk"
	"relay/journal"
	"relay/probe"
)

// TestNeed: P11.1, at the sectors' edges.
func TestNeed(t *testing.T) {
	for n, want := range map[int]int{
		0: 1, 1: 1, 45: 1, 46: 1, 47: 2, 110: 2, 111: 3, 174: 3, 175: 4, 4096: 65, 4097: 65, 4142: 65, 4143: 66,
		-1: 1, -17: 1, -18: 0, -100: 0, math.MaxInt32: 33554433, math.MaxInt: 144115188075855873,
	} {
		if x := journal.Need(n); x != want {
			t.Errorf("%d bytes: %d, not %d", n, x, want)
		}
	}
	journal.Need(math.MinInt)
}

// TestFormatOfNew: P11.1; what stands on a new disk behind Format: generation 1's slot in sector 1, and noughts.
func TestFormatOfNew(t *testing.T) {
	for _, size := range []int{4, 5, 6, 7, 20, 511, 512} {
		d := made(t, size, 0)
		j := formatted(t, d)
		want := make([]byte, 64*size)
		copy(want[64:], slot(1, 0))
		if b := probe.Image(d); !bytes.Equal(b, want) || d.Writes() != 2 {
			t.Errorf("%d sectors, %d writes: %x", size, d.Writes(), b)
		}
		stays(t, "a new disk", j, d, nil)
		if j.Room() != (size-2)/2 {
			t.Errorf("%d sectors: room %d", size, j.Room())
		}
	}
}

// TestFormatOfOld: P11.1; the generation is the one behind the greatest right one, and the other slot is noughts.
func TestFormatOfOld(t *testing.T) {
	bent := slot(90, 0)
	bent[3]++
	garbage := probe.Bytes(64, 5)
	for _, c := range []struct {
		zero, one []byte
		want      uint64
	}{
		{garbage, garbage, 1}, {bent, garbage, 1}, {bent, slot(7, 1), 8}, {garbage, slot(0, 1), 1},
		{slot(4, 1), slot(5, 0), 6}, {slot(6, 0), slot(5, 1), 7}, {slot(6, 1), bent, 7}, {slot(0, 0), garbage, 1},
		{slot(1<<32, 1), slot(1<<32-1, 0), 1<<32 + 1}, {slot(1<<63, 1), slot(1<<63-1, 0), 1<<63 + 1},
		{garbage, slot(math.MaxUint64, 1), 0},
	} {
		d := made(t, 8, 0, c.zero, c.one, area(c.want+1, 3, []byte("of area 0")), area(c.want, 3, []byte("of area 1")))
		want := probe.Image(d)
		copy(want, make([]byte, 128))
		copy(want[64*(c.want%2):], slot(c.want, 0))
		j := formatted(t, d)
		if b := probe.Image(d); !bytes.Equal(b, want) || d.Writes() != 10 {
			t.Errorf("generation %d, %d writes: %x", c.want, d.Writes(), b[:128])
		}
		stays(t, "an old disk", j, d, nil)
		do(t, "Append", j.Append([]byte("more")))
		stays(t, "an old disk", j, d, [][]byte{[]byte("more")})
	}
}

// TestFormatRefused: P11.1; also the order: a disk's own errors are ahead of one that is too small.
func TestFormatRefused(t *testing.T) {
	both := func(what string, d *disk.Disk, format, open api.Errno) {
		t.Helper()
		writes := d.Writes()
		if j, e := journal.Open(d); j != nil || e != open {
			t.Errorf("%s: Open %v %d", what, j, e)
		}
		if j, e := journal.Format(d); j != nil || e != format {
			t.Errorf("%s: Format %v %d", what, j, e)
		}
		if d.Writes() != writes {
			t.Errorf("%s: it is written", what)
		}
	}
	both("nil", nil, api.ErrArg, api.ErrArg)
	for size := 1; size <= 3; size++ {
		both("too small", made(t, size, 0), api.ErrArg, api.ErrArg)
		if size > 1 {
			both("too small, with slots", made(t, size, 0, slot(2, 0), slot(1, 0)), api.ErrArg, api.ErrArg)
		}
		d := made(t, size, 0)
		gone(d)
		both("too small, without power", d, api.ErrStop, api.ErrStop)
	}
	d := made(t, 20, 0, slot(2, 0))
	gone(d)
	both("without power", d, api.ErrStop, api.ErrStop)
	for writes := range 2 {
		d := made(t, 20, 0)
		d.Fail(writes, 30)
		if j, e := journal.Format(d); j != nil || e != api.ErrStop || d.On() {
			t.Errorf("power goes in write %d: %v %d", writes, j, e)
		}
	}
}

// gone takes a disk's power, and changes nothing on it.
func gone(d *disk.Disk) {
	d.Fail(0, 0)
	d.Write(0, make([]byte, 64))
}

// TestOpenTakesTheGreaterSlot: P11.1.
func TestOpenTakesTheGreaterSlot(t *testing.T) {
	zero, one := [][]byte{[]byte("zero")}, [][]byte{[]byte("one"), []byte("two")}
	bent := slot(1<<60, 0)
	bent[63]++
	for _, c := range []struct {
		slots [2][]byte
		want  [][]byte
	}{
		{[2][]byte{slot(4, 0), slot(3, 1)}, zero}, {[2][]byte{slot(4, 0), slot(5, 1)}, one},
		{[2][]byte{slot(4, 0), bent}, zero}, {[2][]byte{bent, slot(5, 1)}, one},
		{[2][]byte{slot(4, 0), make([]byte, 64)}, zero}, {[2][]byte{slot(4, 1), slot(3, 0)}, nil},
		{[2][]byte{slot(4, 0), slot(1<<63+1, 0)}, nil},
	} {
		d := made(t, 9, 0, c.slots[0], c.slots[1], area(4, 3, zero...), area(5, 3, one...))
		stays(t, "two slots", opened(t, d), d, c.want)
	}
	if d := made(t, 8, 0, slot(4, 0)); opened(t, d).Room() != 3 {
		t.Error("an empty journal")
	}
}

// TestOpenOfNoSlot: P11.1; each byte of a slot counts.
func TestOpenOfNoSlot(t *testing.T) {
	refuse := func(what string, b []byte) {
		t.Helper()
		for sector := range 2 {
			if j, e := journal.Open(made(t, 8, sector, b)); j != nil || e != api.ErrForm {
				t.Errorf("%s in sector %d: %v %d", what, sector, j, e)
			}
		}
	}
	for i := range 64 {
		b := slot(2, 1)
		b[i] ^= 4
		refuse("a bent slot", b)
	}
	refuse("noughts", make([]byte, 64))
	for i := range 32 {
		b := slot(2, 1)[:32]
		if i < 4 || i > 12 {
			b[i] ^= 4
			refuse("a sum over other bytes", signed(b))
		}
	}
	for _, x := range []byte{2, 3, 128, 255} {
		refuse("another area", slot(2, x))
	}
}

// TestOpenEndsAtTheFirstWrong: P11.1; each byte of an entry counts, and none behind a wrong one is told.
func TestOpenEndsAtTheFirstWrong(t *testing.T) {
	list := entries(1, 46, 100, 47, 1)
	start := []int{0, 64, 192, 320, 384}
	good := area(6, 9, list...)
	for i := range 384 {
		b := bytes.Clone(good)
		b[i] ^= 64
		n := 0
		for i >= start[n+1] {
			n++
		}
		d := made(t, 20, 0, slot(6, 0), make([]byte, 64), b)
		stays(t, "a bent entry", opened(t, d), d, list[:n])
	}
	a, b := []byte("a"), []byte("b")
	for what, c := range map[string]struct {
		bytes []byte
		n     int
	}{
		"all":                  {slices.Concat(entry(6, 0, a), entry(6, 1, b)), 2},
		"another generation":   {slices.Concat(entry(6, 0, a), entry(5, 1, b)), 1},
		"a later generation":   {slices.Concat(entry(7, 0, a), entry(6, 1, b)), 0},
		"another number":       {slices.Concat(entry(6, 0, a), entry(6, 2, b)), 1},
		"the same number":      {slices.Concat(entry(6, 0, a), entry(6, 0, b)), 1},
		"no number 0":          {slices.Concat(entry(6, 1, b), entry(6, 0, a)), 0},
		"a gap":                {slices.Concat(entry(6, 0, a), make([]byte, 64), entry(6, 1, b)), 1},
		"an entry of no bytes": {slices.Concat(entry(6, 0, a), entry(6, 1, nil)), 1},
	} {
		d := made(t, 20, 0, slot(6, 0), make([]byte, 64), c.bytes)
		stays(t, what, opened(t, d), d, [][]byte{a, b}[:c.n])
	}
}

// TestOpenOfGreatEntries: P11.1; 4096 bytes, and not one more; an entry that reaches behind its area isn't right.
func TestOpenOfGreatEntries(t *testing.T) {
	for n, count := range map[int]int{4096: 1, 4097: 0, 5000: 0, 15000: 0} {
		list := [][]byte{probe.Bytes(n, 1)}
		d := made(t, 512, 0, slot(2, 0), make([]byte, 64), area(2, 255, list...))
		stays(t, "a great entry", opened(t, d), d, list[:count])
	}
	for size, count := range map[int]int{10: 2, 9: 1, 8: 1} {
		list := entries(1, 46, 174)
		d := made(t, size, 0, slot(2, 0), make([]byte, 64), area(2, 4, list...))
		stays(t, "an entry at the area's end", opened(t, d), d, list[:count])
	}
}

// TestAppend: P11.1; what stands on the disk behind each.
func TestAppend(t *testing.T) {
	for _, old := range []bool{false, true} {
		d := made(t, 301, 0)
		generation := uint64(1)
		if old {
			lay(t, d, 0, slot(8, 1), slot(7, 0), area(8, 149, entries(3, 200, 5000, 4000)...))
			generation = 9
		}
		j := formatted(t, d)
		want := probe.Image(d)
		var list [][]byte
		at := 128
		for i, n := range []int{46, 1, 47, 110, 111, 4096, 2, 255, 256} {
			b := probe.Bytes(n, i)
			writes := d.Writes()
			do(t, "Append", j.Append(b))
			list = append(list, b)
			laid := entry(generation, i, b)
			copy(want[at:], laid)
			at += len(laid)
			if !bytes.Equal(probe.Image(d), want) || d.Writes() != writes+len(laid)/64 {
				t.Errorf("entry %d of %d bytes: other bytes stand there", i, n)
			}
			stays(t, "entries", j, d, list)
			if i%3 == 0 {
				j = opened(t, d)
			}
		}
	}
}

// unchanged: e is want, and neither a journal nor its disk is another one than ahead.
func unchanged(t *testing.T, what string, d *disk.Disk, j *journal.Journal, want api.Errno, call func() api.Errno) {
	t.Helper()
	list, room, was, writes := j.Entries(), j.Room(), probe.Image(d), d.Writes()
	e := call()
	if e != want {
		t.Errorf("%s: %d, not %d", what, e, want)
	}
	if !same(j.Entries(), list) || j.Room() != room || !bytes.Equal(probe.Image(d), was) || d.Writes() != writes {
		t.Errorf("%s: something is changed", what)
	}
}

// TestAppendRefused: P11.1; with power or without.
func TestAppendRefused(t *testing.T) {
	d := made(t, 140, 0) // areas of 69 sectors
	j := formatted(t, d)
	do(t, "Append", j.Append(probe.Bytes(200, 1)))
	appends := func(n int) func() api.Errno { return func() api.Errno { return j.Append(probe.Bytes(n, 2)) } }
	for range 2 {
		unchanged(t, "no byte", d, j, api.ErrArg, appends(0))
		unchanged(t, "a byte too many", d, j, api.ErrArg, appends(4097))
		unchanged(t, "far too many", d, j, api.ErrArg, appends(1<<17))
		gone(d)
	}
	d.Up()
	do(t, "Append", j.Append(probe.Bytes(4096, 1)))
	unchanged(t, "no room", d, j, api.ErrFull, appends(1))
	unchanged(t, "no room, and a byte too many", d, j, api.ErrArg, appends(4097))
	gone(d)
	unchanged(t, "no room, and no power", d, j, api.ErrFull, appends(1))
	unchanged(t, "no room, no byte and no power", d, j, api.ErrArg, appends(0))
}

// TestRoomsEdge: P11.1; an entry that just fits, and one that needs a sector more; what is left over isn't an area's.
func TestRoomsEdge(t *testing.T) {
	for _, size := range []int{8, 9} {
		d := made(t, size, 0)
		j := formatted(t, d)
		full := func(n int) func() api.Errno { return func() api.Errno { return j.Append(probe.Bytes(n, 2)) } }
		unchanged(t, "four sectors", d, j, api.ErrFull, full(175))
		do(t, "Append", j.Append(probe.Bytes(46, 1)))
		unchanged(t, "three sectors", d, j, api.ErrFull, full(111))
		do(t, "Append", j.Append(probe.Bytes(110, 2)))
		stays(t, "full", j, d, [][]byte{probe.Bytes(46, 1), probe.Bytes(110, 2)})
		unchanged(t, "a sector", d, j, api.ErrFull, full(1))
		if b := probe.Image(d); !bytes.Equal(b[64*5:], make([]byte, 64*(size-5))) {
			t.Errorf("%x", b)
		}
	}
	d := made(t, 4, 0)
	j := formatted(t, d)
	do(t, "Append", j.Append(probe.Bytes(46, 1)))
	stays(t, "the least disk", j, d, [][]byte{probe.Bytes(46, 1)})
	do(t, "Compact", j.Compact([][]byte{{7}}))
	stays(t, "the least disk", j, d, [][]byte{{7}})
}

// TestCompact: P11.1; what stands on the disk behind it: all of the other area, and its slot; nothing else.
func TestCompact(t *testing.T) {
	d := made(t, 25, 2, bytes.Repeat([]byte{0xee}, 64*23)) // areas of 11 sectors, and one sector left over
	j := formatted(t, d)
	do(t, "Append", j.Append([]byte("first")))
	want := probe.Image(d)
	for i, keep := range [][][]byte{
		{[]byte("one"), probe.Bytes(100, 1)}, {}, {[]byte("two")}, entries(1, 46, 47, 110, 111, 1, 2, 3), nil, {probe.Bytes(686, 1)},
	} {
		generation := uint64(2 + i)
		other := 1 - i%2
		writes := d.Writes()
		do(t, "Compact", j.Compact(keep))
		copy(want[64*(2+11*other):], area(generation, 11, keep...))
		copy(want[64*(generation%2):], slot(generation, byte(other)))
		if !bytes.Equal(probe.Image(d), want) || d.Writes() != writes+12 {
			t.Errorf("Compact %d: other bytes stand there, of %d writes", i, d.Writes()-writes)
		}
		stays(t, "compacted", j, d, keep)
		if i%2 == 1 {
			j = opened(t, d)
		}
	}
}

// TestAppendBehindCompact: P11.1; numbers go on behind those that were kept, in the new generation.
func TestAppendBehindCompact(t *testing.T) {
	d := made(t, 20, 0)
	j := formatted(t, d)
	list := entries(1, 10, 60)
	do(t, "Compact", j.Compact(list))
	do(t, "Append", j.Append([]byte("more")))
	list = append(list, []byte("more"))
	stays(t, "more", j, d, list)
	if b := probe.Image(d); !bytes.Equal(b[64*11:], area(2, 9, list...)) {
		t.Errorf("%x", b[64*11:])
	}
}

// TestCompactRefused: P11.1; a wrong entry counts ahead of room, wherever it stands.
func TestCompactRefused(t *testing.T) {
	d := made(t, 160, 0) // areas of 79 sectors
	j := formatted(t, d)
	do(t, "Append", j.Append([]byte("first")))
	one := []byte{1}
	for range 2 {
		for what, c := range map[string]struct {
			keep [][]byte
			want api.Errno
		}{
			"no byte":              {[][]byte{nil}, api.ErrArg},
			"no byte, last":        {[][]byte{one, one, {}}, api.ErrArg},
			"too many":             {[][]byte{one, make([]byte, 4097), one}, api.ErrArg},
			"no room":              {slices.Repeat([][]byte{one}, 80), api.ErrFull},
			"no room of great":     {entries(1, 4096, 900), api.ErrFull},
			"no room, and no byte": {append(slices.Repeat([][]byte{one}, 100), nil), api.ErrArg},
		} {
			unchanged(t, what, d, j, c.want, func() api.Errno { return j.Compact(c.keep) })
		}
		gone(d)
	}
	d.Up()
	for _, keep := range [][][]byte{slices.Repeat([][]byte{one}, 79), entries(1, 4096, 878)} {
		do(t, "Compact", j.Compact(keep))
		stays(t, "just full", j, d, keep)
		unchanged(t, "full", d, j, api.ErrFull, func() api.Errno { return j.Append(one) })
	}
}

// TestNil: P11.1.
func TestNil(t *testing.T) {
	var j *journal.Journal
	for _, b := range [][]byte{nil, {1}, make([]byte, 5000)} {
		if a, c := j.Append(b), j.Compact([][]byte{b}); a != api.ErrArg || c != api.ErrArg {
			t.Errorf("Append %d, Compact %d", a, c)
		}
	}
	if e := j.Compact(nil); e != api.ErrArg || j.Entries() != nil || j.Room() != 0 {
		t.Errorf("%d, %x, room %d", e, j.Entries(), j.Room())
	}
}

// TestOfNoOne: no call panics of a Journal that neither Format nor Open answered.
func TestOfNoOne(t *testing.T) {
	j := new(journal.Journal)
	if a, c := j.Append([]byte{1}), j.Compact([][]byte{{1}}); a == api.OK || c == api.OK {
		t.Errorf("Append %d, Compact %d", a, c)
	}
	if e := j.Compact(nil); e == api.OK || len(j.Entries()) != 0 || j.Room() != 0 {
		t.Errorf("%d, %x, room %d", e, j.Entries(), j.Room())
	}
}
