package probe_test

import (
	"bytes"
	"slices"
	"testing"

	"relay/disk"
	"relay/probe"
)

func TestBytesDiffer(t *testing.T) {
	if b := probe.Bytes(100, 1); len(b) != 100 || bytes.Equal(b, probe.Bytes(100, 2)) {
		t.Errorf("%x", b)
	}
	if probe.Array(3) == probe.Array(4) {
		t.Error("the same array of two seeds")
	}
}

func TestHex(t *testing.T) {
	if b := probe.Hex("00ff1A"); !bytes.Equal(b, []byte{0, 255, 26}) {
		t.Errorf("%x", b)
	}
	if probe.Hex("") != nil || probe.Hex("0") != nil || probe.Hex("0g") != nil || probe.Hex("001") != nil {
		t.Error("what can't be read is read")
	}
}

func TestLentTellsEachChange(t *testing.T) {
	l := probe.Lend([]byte("abc"))
	b := l.Bytes()
	if string(b) != "abc" || cap(b) == len(b) || !l.Kept() {
		t.Fatalf("%q, room %d", b, cap(b)-len(b))
	}
	for i := range b[:cap(b)] {
		b[:cap(b)][i] ^= 1
		if i < len(b)+1 && l.Kept() {
			t.Errorf("a change at %d isn't told", i)
		}
		b[:cap(b)][i] ^= 1
	}
	l.Spoil()
	if l.Kept() || string(b) == "abc" {
		t.Errorf("%q", b)
	}
}

func TestImage(t *testing.T) {
	d, _ := disk.New(3)
	d.Write(1, probe.Bytes(64, 1))
	d.Fail(0, 2)
	d.Write(2, probe.Bytes(64, 2))
	want := slices.Concat(make([]byte, 64), probe.Bytes(64, 1), probe.Bytes(64, 2)[:2], make([]byte, 62))
	if b := probe.Image(d); !bytes.Equal(b, want) || d.On() {
		t.Errorf("%x", b)
	}
}
