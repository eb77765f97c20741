package hello_test

import (
	"bytes"
	"slices"
	"testing"

	"relay/api"
	"relay/hello"
	"relay/probe"
)

// lists is all the byte lists of a client; spoilNumbers makes its numbers others.
func lists(c hello.Client) [][]byte {
	out := [][]byte{c.Session, c.Cookie, c.Modes}
	for _, s := range c.Shares {
		out = append(out, s.Key)
	}
	for _, id := range c.Ids {
		out = append(out, id.Ticket)
	}
	return append(out, c.Binders...)
}

func spoilNumbers(list []int) {
	list = list[:cap(list)]
	for i := range list {
		list[i] ^= 0x5555
	}
}

// roomy is a client as full, whose lists have spare room; the spare room of each has marks.
func roomy() hello.Client {
	c := full()
	c.Suites = append(append(make([]int, 0, 20), c.Suites...), 9, 9)[:8]
	c.Versions = append(append(make([]int, 0, 20), c.Versions...), 9, 9)[:4]
	c.Groups = append(append(make([]int, 0, 20), c.Groups...), 9, 9)[:4]
	c.Schemes = append(append(make([]int, 0, 20), c.Schemes...), 9, 9)[:4]
	c.Shares = append(append(make([]hello.Share, 0, 20), c.Shares...), hello.Share{Group: 9})[:4]
	c.Ids = append(append(make([]hello.Id, 0, 20), c.Ids...), hello.Id{Age: 9})[:4]
	c.Binders = append(append(make([][]byte, 0, 20), c.Binders...), []byte{9})[:4]
	return c
}

// marked: has the spare room of each its marks?
func marked(c hello.Client) bool {
	marks := []int{9, 9}
	return slices.Equal(c.Suites[8:10], marks) && slices.Equal(c.Versions[4:6], marks) &&
		slices.Equal(c.Groups[4:6], marks) && slices.Equal(c.Schemes[4:6], marks) &&
		c.Shares[:5][4].Group == 9 && c.Ids[:5][4].Age == 9 && c.Binders[:5][4][0] == 9
}

// TestPutMemory: P8.3.
func TestPutMemory(t *testing.T) {
	session, key, cookie := probe.Lend(probe.Bytes(32, 3)), probe.Lend(probe.Bytes(32, 4)), probe.Lend(probe.Bytes(64, 5))
	ticket, binder, modes := probe.Lend(probe.Bytes(20, 6)), probe.Lend(probe.Bytes(32, 7)), probe.Lend(probe.Bytes(4, 8))
	c := roomy()
	c.Session, c.Cookie, c.Modes = session.Bytes(), cookie.Bytes(), modes.Bytes()
	c.Shares[1].Key, c.Ids[2].Ticket, c.Binders[3] = key.Bytes(), ticket.Bytes(), binder.Bytes()
	first, _ := hello.PutClient(c)
	want := bytes.Clone(first)
	again, _ := hello.PutClient(c)
	probe.Spoil(again)
	s := answer()
	s.Session, s.Share.Key = session.Bytes(), key.Bytes()
	one, _ := hello.PutServer(s)
	r := both()
	r.Session, r.Cookie = session.Bytes(), cookie.Bytes()
	two, _ := hello.PutServer(r)
	wantOne, wantTwo := bytes.Clone(one), bytes.Clone(two)
	for _, lent := range []probe.Lent{session, key, cookie, ticket, binder, modes} {
		if !lent.Kept() {
			t.Error("what was handed in was changed")
		}
		lent.Spoil()
	}
	if !marked(c) || !slices.Equal(c.Suites, full().Suites) {
		t.Error("lists that were handed in were changed")
	}
	if len(first) == 0 || !bytes.Equal(first, want) || !bytes.Equal(one, wantOne) || !bytes.Equal(two, wantTwo) {
		t.Error("an answer shares memory with what was handed in")
	}
}

// TestGetClientMemory: P8.3; each list is spoiled in turn, and those behind it stay.
func TestGetClientMemory(t *testing.T) {
	b, _ := hello.PutClient(full())
	lent := probe.Lend(b)
	c, e := hello.GetClient(lent.Bytes())
	all, want := lists(c), lists(full())
	for i := range all {
		if e != api.OK || !bytes.Equal(all[i], want[i]) {
			t.Errorf("list %d shares memory with one ahead: %x", i, all[i])
		}
		probe.Spoil(all[i])
	}
	numbers, wantNumbers := [][]int{c.Suites, c.Versions, c.Groups, c.Schemes}, [][]int{full().Suites, full().Versions, full().Groups, full().Schemes}
	for i := range numbers {
		if !slices.Equal(numbers[i], wantNumbers[i]) {
			t.Errorf("numbers %d share memory with those ahead: %v", i, numbers[i])
		}
		spoilNumbers(numbers[i])
	}
	hello.Cut(lent.Bytes())
	if !lent.Kept() {
		t.Error("what was handed in was changed, or is shared")
	}
	c, _ = hello.GetClient(lent.Bytes())
	lent.Spoil()
	if !sameClient(c, full()) {
		t.Error("what was handed in is kept")
	}
}

// TestGetServerMemory: P8.3.
func TestGetServerMemory(t *testing.T) {
	for _, want := range []hello.Server{answer(), both()} {
		b, _ := hello.PutServer(want)
		lent := probe.Lend(b)
		s, _ := hello.GetServer(lent.Bytes())
		probe.Spoil(s.Session)
		if !bytes.Equal(s.Share.Key, want.Share.Key) || !bytes.Equal(s.Cookie, want.Cookie) {
			t.Error("lists share memory")
		}
		probe.Spoil(s.Share.Key)
		probe.Spoil(s.Cookie)
		if !lent.Kept() {
			t.Error("what was handed in was changed, or is shared")
		}
		s, _ = hello.GetServer(lent.Bytes())
		lent.Spoil()
		if !sameServer(s, want) {
			t.Error("what was handed in is kept")
		}
	}
}
