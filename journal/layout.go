package journal

import (
	"bytes"
	"slices"

	"relay/api"
	"relay/disk"
	"relay/sha"
)

const (
	mark = "RLAY" // a slot's first bytes
	tag  = 16     // bytes of an entry's sum
	head = tag + 2
)

// slot tells which area counts.
type slot struct {
	generation uint64
	area       int
}

// home is the sector of the slot's generation.
func (s slot) home() int { return int(s.generation % 2) }

func (s slot) bytes() []byte {
	out := make([]byte, api.SectorSize-api.HashSize)
	copy(out, slices.Concat([]byte(mark), bytesOf(s.generation, 8), bytesOf(uint64(s.area), 1)))
	sum := sha.Sum(out)
	return append(out, sum[:]...)
}

// slotOf is the slot that stands in a sector; false, if it isn't right.
func slotOf(b []byte) (slot, bool) {
	s := slot{area: int(b[len(mark)+8])}
	for _, x := range b[len(mark) : len(mark)+8] {
		s.generation = s.generation<<8 | uint64(x)
	}
	if s.area > 1 || !bytes.Equal(b, s.bytes()) {
		return slot{}, false
	}
	return s, true
}

// entry is the sectors of the slot's how manieth entry.
func (s slot) entry(place int, b []byte) []byte {
	count := bytesOf(uint64(len(b)), 2)
	sum := sha.Sum(slices.Concat(bytesOf(s.generation, 8), bytesOf(uint64(place), 4), count, b))
	out := make([]byte, Need(len(b))*api.SectorSize)
	copy(out, slices.Concat(sum[:tag], count, b))
	return out
}

// image is the whole of an area of so many sectors, with these entries.
func (s slot) image(list [][]byte, size int) []byte {
	var out []byte
	for i, b := range list {
		out = append(out, s.entry(i, b)...)
	}
	return append(out, make([]byte, size*api.SectorSize-len(out))...)
}

// read is the entry of that number that begins at a sector of the area; no bytes, if none does.
func (j *Journal) read(at, number int) ([]byte, api.Errno) {
	if at >= j.size {
		return nil, api.OK
	}
	all, e := j.disk.Read(j.place(at))
	if e != api.OK {
		return nil, e
	}
	n := int(all[tag])<<8 | int(all[tag+1])
	if n < 1 || n > api.MaxLog || at+Need(n) > j.size {
		return nil, api.OK
	}
	for i := 1; i < Need(n); i++ {
		more, e := j.disk.Read(j.place(at + i))
		if e != api.OK {
			return nil, e
		}
		all = append(all, more...)
	}
	b := all[head : head+n]
	if !bytes.Equal(all, j.slot.entry(number, b)) {
		return nil, api.OK
	}
	return b, api.OK
}

// blank sees to it that no entry of that number begins at a sector of the area.
func (j *Journal) blank(at, number int) api.Errno {
	b, e := j.read(at, number)
	if len(b) == 0 {
		return e
	}
	return put(j.disk, j.place(at), noughts())
}

// place is a sector of the area, as the disk counts.
func (j *Journal) place(at int) int { return first(j.slot.area, j.size) + at }

// first is the sector where an area begins.
func first(area, size int) int { return 2 + area*size }

// put writes b, sector by sector.
func put(d *disk.Disk, sector int, b []byte) api.Errno {
	for part := range slices.Chunk(b, api.SectorSize) {
		if e := d.Write(sector, part); e != api.OK {
			return e
		}
		sector++
	}
	return api.OK
}

func noughts() []byte { return make([]byte, api.SectorSize) }

// canBe: can b be an entry?
func canBe(b []byte) bool { return len(b) >= 1 && len(b) <= api.MaxLog }

// sectors is how many the entries take.
func sectors(list [][]byte) int {
	n := 0
	for _, b := range list {
		n += Need(len(b))
	}
	return n
}

// bytesOf is n in so many bytes, the highest first.
func bytesOf(n uint64, width int) []byte {
	out := make([]byte, width)
	for i := range out {
		out[i] = byte(n >> (8 * (width - 1 - i)))
	}
	return out
}
