package journal_test

import (
	"bytes"
	"testing"

	"relay/journal"
	"relay/probe"
)

// TestAppendMemory: P11.4.
func TestAppendMemory(t *testing.T) {
	d := made(t, 40, 0)
	j := formatted(t, d)
	one, two := probe.Lend(probe.Bytes(46, 1)), probe.Lend(probe.Bytes(100, 2))
	do(t, "Append", j.Append(one.Bytes()))
	do(t, "Append", j.Append(two.Bytes()))
	if !one.Kept() || !two.Kept() {
		t.Error("what was handed in was changed")
	}
	one.Spoil()
	two.Spoil()
	stays(t, "spoiled", j, d, [][]byte{probe.Bytes(46, 1), probe.Bytes(100, 2)})
}

// TestCompactMemory: P11.4, of the list and of its entries; of one that is refused, too.
func TestCompactMemory(t *testing.T) {
	d := made(t, 40, 0)
	j := formatted(t, d)
	want := entries(1, 46, 100)
	one, two, three := probe.Lend(want[0]), probe.Lend(want[1]), probe.Lend([]byte("spare"))
	keep := [][]byte{one.Bytes(), two.Bytes(), three.Bytes()}[:2]
	do(t, "Compact", j.Compact(keep))
	if j.Compact(append(keep, nil)) == 0 {
		t.Error("an entry of no byte")
	}
	keep = append(keep, three.Bytes())[:2]
	do(t, "Append", j.Append([]byte("more")))
	if !one.Kept() || !two.Kept() || !three.Kept() || !same(keep, want) || string(keep[:3][2]) != "spare" {
		t.Error("what was handed in was changed")
	}
	one.Spoil()
	two.Spoil()
	keep[0], keep[1] = nil, nil
	stays(t, "spoiled", j, d, append(want, []byte("more")))
}

// TestEntriesMemory: P11.4; each entry is spoiled in turn, and those behind it stay.
func TestEntriesMemory(t *testing.T) {
	d := made(t, 40, 0)
	j := formatted(t, d)
	want := entries(1, 46, 100, 3)
	for _, b := range want {
		do(t, "Append", j.Append(b))
	}
	for _, j := range []*journal.Journal{j, opened(t, d)} {
		list, other := j.Entries(), j.Entries()
		for i := range list {
			if !bytes.Equal(list[i], want[i]) {
				t.Errorf("entry %d shares memory with one ahead", i)
			}
			probe.Spoil(list[i])
		}
		_ = append(list[:1], nil)
		if !same(other, want) {
			t.Error("two answers share memory")
		}
		tells(t, "spoiled", j, 19, want)
		do(t, "Compact", j.Compact(want))
		list = j.Entries()
		probe.Spoil(list[0])
		stays(t, "compacted", j, d, want)
	}
}

// TestDisksAreShared: a journal's disk is the one that was handed in.
func TestDisksAreShared(t *testing.T) {
	d := made(t, 20, 0)
	j := formatted(t, d)
	c := d.Copy()
	do(t, "Append", j.Append([]byte("first")))
	stays(t, "the disk", j, d, [][]byte{[]byte("first")})
	if l := opened(t, c).Entries(); len(l) != 0 {
		t.Errorf("a copy: %x", l)
	}
}
