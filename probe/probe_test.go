package probe_test

import (
	"bytes"
	"testing"

	"relay/probe"
)

func TestBytesDiffer(t *testing.T) {
	if b := probe.Bytes(100, 1); len(b) != 100 || bytes.Equal(b, probe.Bytes(100, 2)) {
		t.Errorf("%x", b)
	}
	if probe.Array(3) == probe.Array(4) {
		t.Error("the same array of two seeds")
	}
}

func TestHex(t *testing.T) {
	if b := probe.Hex("00ff1A"); !bytes.Equal(b, []byte{0, 255, 26}) {
		t.Errorf("%x", b)
	}
	if probe.Hex("") != nil || probe.Hex("0") != nil || probe.Hex("0g") != nil || probe.Hex("001") != nil {
		t.Error("what can't be read is read")
	}
}

func TestLentTellsEachChange(t *testing.T) {
	l := probe.Lend([]byte("abc"))
	b := l.Bytes()
	if string(b) != "abc" || cap(b) == len(b) || !l.Kept() {
		t.Fatalf("%q, room %d", b, cap(b)-len(b))
	}
	for i := range b[:cap(b)] {
		b[:cap(b)][i] ^= 1
		if i < len(b)+1 && l.Kept() {
			t.Errorf("a change at %d isn't told", i)
		}
		b[:cap(b)][i] ^= 1
	}
	l.Spoil()
	if l.Kept() || string(b) == "abc" {
		t.Errorf("%q", b)
	}
}
