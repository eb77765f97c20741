package host_test

import (
	"bytes"
	"slices"
	"testing"

	"relay/api"
	"relay/host"
	"relay/peer"
	"relay/probe"
	"relay/schedule"
	"relay/server"
	"relay/sha"
	"relay/snap"
	"relay/vault"
)

// TestAcceptIsWritten: P21.1; the connection's number in two bytes, at its edges.
func TestAcceptIsWritten(t *testing.T) {
	h, d := begun(t, 100)
	hold(t, "Begin", written(t, d))
	ok(t, "Accept", h.Accept(0))
	ok(t, "Accept", h.Accept(65535))
	ok(t, "Accept", h.Accept(258))
	hold(t, "Accept", written(t, d), []byte{4, 0, 0}, []byte{4, 255, 255}, []byte{4, 1, 2})
	if s := state(t, h, 258); !same(s, server.New()) {
		t.Errorf("%v", s)
	}
	if !slices.Equal(h.Conns(), []int{0, 258, 65535}) || len(h.Seals()) > 0 {
		t.Errorf("%v, %v", h.Conns(), h.Seals())
	}
}

// TestReservedIsWritten: P21.1; each block of 8 once, ahead of its first record; anew behind a snapshot.
func TestReservedIsWritten(t *testing.T) {
	h, d := begun(t, 300)
	l := opened(t, h, 258, plan())
	want := [][]byte{{4, 1, 2}, {1, 1, 2, 0, 1, 8}}
	hold(t, "a handshake", written(t, d), want...)
	for i := range 20 {
		if i%8 == 0 {
			want = append(want, []byte{1, 1, 2, 0, 2, byte(i + 8)})
		}
		l.hear(t, sent(t, "Write")(h.Write(258, []byte{byte(i)})))
		hold(t, "Write", written(t, d), want...)
	}
	for range 2 {
		ok(t, "Freeze", h.Freeze(258))
	}
	want = written(t, d)
	l.hear(t, sent(t, "Write")(h.Write(258, []byte{20})))
	want = append(want, []byte{1, 1, 2, 0, 2, 24})
	hold(t, "Write behind a snapshot", written(t, d), want...)
	l.hear(t, sent(t, "Update")(h.Update(258, false)))
	hold(t, "Update", written(t, d), want...)
	l.hear(t, sent(t, "Write")(h.Write(258, []byte{21})))
	want = append(want, []byte{1, 1, 2, 0, 3, 8})
	hold(t, "Write behind an update", written(t, d), want...)
	if !bytes.Equal(l.p.Data, []byte{0, 1, 2, 3, 4, 5, 6, 7, 8, 9, 10, 11, 12, 13, 14, 15, 16, 17, 18, 19, 20, 21}) {
		t.Errorf("the client hears %v", l.p.Data)
	}
}

// TestLongTextIsReserved: P21.1; one Write that takes the numbers of three epochs: 62 records, and an update, by each.
func TestLongTextIsReserved(t *testing.T) {
	h, d := begun(t, 300)
	l := opened(t, h, 3, plan())
	n := len(written(t, d))
	text := probe.Bytes(256*130+7, 1)
	l.hear(t, sent(t, "Write")(h.Write(3, text)))
	var want [][]byte
	for _, x := range []struct{ epoch, until int }{{2, 64}, {3, 64}, {4, 8}} {
		for until := 8; until <= x.until; until += 8 {
			want = append(want, []byte{1, 0, 3, 0, byte(x.epoch), byte(until)})
		}
	}
	hold(t, "Write", written(t, d)[n:], want...)
	if !bytes.Equal(l.p.Data, text) {
		t.Error("the client hears another text")
	}
	if s := state(t, h, 3); s.OutEpoch != 4 || s.OutSeq != 131-124 {
		t.Errorf("%d, %d", s.OutEpoch, s.OutSeq)
	}
}

// snapshot is a connection's, as the chapter says.
func snapshot(t *testing.T, s server.State, n vault.Note, left []byte) []byte {
	t.Helper()
	b, e := snap.Put(s, 3)
	ok(t, "snap.Put", e)
	b, e = vault.Seal(vaultKey(), n, joined([]byte{byte(len(left) >> 8), byte(len(left))}, left, b))
	ok(t, "vault.Seal", e)
	return b
}

// TestFrozenIsWritten: P21.1; counts, eight at once, and the sealed snapshot, in whatever phase.
func TestFrozenIsWritten(t *testing.T) {
	h, d := begun(t, 500)
	l, b := greeted(t, h, 258, plan())
	want := [][]byte{{4, 1, 2}}
	count, generation := 0, 0
	freeze := func(left []byte) {
		t.Helper()
		ok(t, "Freeze", h.Freeze(258))
		if count%8 == 0 {
			want = append(want, []byte{2, 0, 0, 0, byte(count + 8)})
		}
		generation++
		sealed := snapshot(t, state(t, h, 258), vault.Note{Count: count, Conn: 258, Generation: generation}, left)
		want = append(want, joined([]byte{3, 1, 2}, sealed))
		hold(t, "Freeze", written(t, d), want...)
		seals := h.Seals()
		if seals[len(seals)-1] != countOf(count) {
			t.Errorf("%v", seals[len(seals)-1])
		}
		count++
	}
	freeze(nil)
	sent(t, "Take")(h.Take(258, b[:3], random(1)))
	freeze(b[:3])
	sent(t, "Take")(h.Take(258, b[3:40], random(1)))
	freeze(b[:40])
	b = l.hear(t, sent(t, "Take")(h.Take(258, b[40:], random(1))))
	want = append(want, []byte{1, 1, 2, 0, 1, 8})
	freeze(nil)
	said := l.say(t, "hi")
	sent(t, "Take")(h.Take(258, joined(b, said[:20]), random(2)))
	for range 5 {
		freeze(said[:20])
	}
	sent(t, "Take")(h.Take(258, said[20:], random(2)))
	freeze(nil)
}

// TestGivenIsWritten: P21.1; the ticket's number and secret, ahead of what is sent; its text, life and nonce.
func TestGivenIsWritten(t *testing.T) {
	h, d := begun(t, 300)
	opened(t, h, 7, plan())
	sent(t, "Give")(h.Give(7))
	want := [][]byte{{4, 0, 7}, {1, 0, 7, 0, 1, 8}, {1, 0, 7, 0, 2, 8}}
	s := state(t, h, 7)
	for number := range 3 {
		nonce := []byte{0, 0, 0, byte(number)}
		psk := schedule.Resume(s.Secrets.Master, s.Sum, nonce)
		want = append(want, joined([]byte{6}, nonce, psk[:]))
		hold(t, "Give", written(t, d), want...)
		sent(t, "Give")(h.Give(7))
	}
}

// TestTicketAsItIsSent: P21.1; held against server's Give of another State that is the same.
func TestTicketAsItIsSent(t *testing.T) {
	h, _ := begun(t, 300)
	l := opened(t, h, 7, plan())
	for number := range 11 {
		nonce := []byte{0, 0, 0, byte(number)}
		mac := ticketKey()
		tag := sha.Mac(mac[:], nonce)
		ticket := joined(nonce, tag[:12])
		_, did, psk, e := server.Give(state(t, h, 7), slices.Repeat([]int{64}, 9), 600, 0, nonce, ticket)
		ok(t, "server.Give", e)
		b := sent(t, "Give")(h.Give(7))
		if !bytes.Equal(b, did.Send) {
			t.Errorf("ticket %d: %x is sent, not %x", number, b, did.Send)
		}
		l.hear(t, b)
		if n := l.p.Tickets[number]; !bytes.Equal(n.Ticket, ticket) || n.Psk != psk {
			t.Errorf("ticket %d: %v", number, n)
		}
	}
}

// TestUsedIsWritten: P21.1; the number of the ticket by which a connection is resumed; with it there is one more time no handshake by it.
func TestUsedIsWritten(t *testing.T) {
	h, d := begun(t, 300)
	l := opened(t, h, 1, plan())
	for range 3 {
		l.hear(t, sent(t, "Give")(h.Give(1)))
	}
	p := l.ticketed()
	n := len(written(t, d))
	m := opened(t, h, 2, p)
	if !m.p.Resumed || !bytes.Equal(state(t, h, 2).Used, p.Ticket) {
		t.Error("it isn't resumed")
	}
	hold(t, "a ticket is used", written(t, d)[n:], []byte{4, 0, 2}, []byte{1, 0, 2, 0, 1, 8}, []byte{7, 0, 0, 0, 2})
	m = opened(t, h, 3, p)
	if m.p.Resumed || len(state(t, h, 3).Used) > 0 {
		t.Error("it is resumed twice")
	}
	hold(t, "a ticket was used", written(t, d)[n+3:], []byte{4, 0, 3}, []byte{1, 0, 3, 0, 1, 8})
}

// TestEndedIsWritten: P21.1; by whatever it closes.
func TestEndedIsWritten(t *testing.T) {
	for what, end := range map[string]func(h *host.Host, l *link) (host.Out, api.Errno){
		"Close": func(h *host.Host, l *link) (host.Out, api.Errno) { return h.Close(258) },
		"a client's close": func(h *host.Host, l *link) (host.Out, api.Errno) {
			_, b, _ := peer.Close(l.p)
			return h.Take(258, b, random(3))
		},
		"bent bytes": func(h *host.Host, l *link) (host.Out, api.Errno) { return h.Take(258, make([]byte, 1), random(3)) },
		"a long record": func(h *host.Host, l *link) (host.Out, api.Errno) {
			return h.Take(258, []byte{23, 3, 3, 1, 18}, random(3))
		},
		"another record": func(h *host.Host, l *link) (host.Out, api.Errno) {
			return h.Take(258, joined([]byte{23, 3, 3, 0, 30}, make([]byte, 30)), random(3))
		},
	} {
		h, d := begun(t, 300)
		l := opened(t, h, 258, plan())
		ok(t, "Accept", h.Accept(9))
		list := append(written(t, d), []byte{1, 1, 2, 0, 2, 8}, []byte{5, 1, 2})
		b := sent(t, what)(end(h, l))
		l.hear(t, b)
		if _, lives := h.State(258); lives || len(b) == 0 || l.p.Phase != peer.Closed || !slices.Equal(h.Conns(), []int{9}) {
			t.Errorf("%s: %v live", what, h.Conns())
		}
		hold(t, what, written(t, d), list...)
	}
	h, d := begun(t, 300)
	ok(t, "Accept", h.Accept(1))
	sent(t, "Close")(h.Close(1))
	ok(t, "Accept", h.Accept(2))
	sent(t, "Take")(h.Take(2, []byte{21, 3, 3, 0, 2, 2, 40}, random(1)))
	hold(t, "closed at once", written(t, d), []byte{4, 0, 1}, []byte{5, 0, 1}, []byte{4, 0, 2}, []byte{5, 0, 2})
}
