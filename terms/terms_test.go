package terms_test

import (
	"bytes"
	"slices"
	"testing"

	"relay/hello"
	"relay/probe"
	"relay/sha"
	"relay/terms"
)

// TestNumbers: those that RFC 8446 has for them, but the scheme.
func TestNumbers(t *testing.T) {
	all := []int{terms.Suite, terms.Group, terms.Version, terms.Scheme, terms.Mode}
	if !slices.Equal(all, []int{0x1303, 0x001d, 0x0304, 0xfe01, 1}) {
		t.Errorf("%x", all)
	}
}

func TestMessage(t *testing.T) {
	if b := terms.Message(24, []byte{1}); !bytes.Equal(b, probe.Hex("1800000101")) {
		t.Errorf("%x", b)
	}
	if b := terms.Message(256, nil); len(b) != 0 {
		t.Errorf("%x", b)
	}
}

func TestLog(t *testing.T) {
	sum := sha.Sum([]byte("greeting"))
	if b := terms.Log([]byte("greeting"), []byte("retry")); !bytes.Equal(b, slices.Concat(probe.Hex("fe000020"), sum[:], []byte("retry"))) {
		t.Errorf("%x", b)
	}
}

// TestBound: the binders and their count are left out, and nothing else.
func TestBound(t *testing.T) {
	c := hello.Client{Suites: []int{1}}
	for n := 1; n <= 4; n++ {
		c.Ids, c.Binders = append(c.Ids, hello.Id{Ticket: probe.Bytes(n*9, n)}), append(c.Binders, probe.Bytes(32, n))
		body, _ := hello.PutClient(c)
		greeting, log := terms.Message(1, body), probe.Bytes(n*10, n)
		want := sha.Sum(slices.Concat(log, greeting[:len(greeting)-2-33*n]))
		lentLog, lent := probe.Lend(log), probe.Lend(greeting)
		if sum := terms.Bound(lentLog.Bytes(), lent.Bytes()); sum != want {
			t.Errorf("%d binders: %x, not %x", n, sum, want)
		}
		if !lentLog.Kept() || !lent.Kept() {
			t.Error("what was handed in was changed")
		}
	}
}
