package peer_test

import (
	"bytes"
	"testing"

	"relay/curve"
	"relay/hello"
	"relay/peer"
	"relay/probe"
	"relay/schedule"
	"relay/sha"
	"relay/stream"
)

// greeted is the greeting that a Plan calls for, behind a log, by the chapter's words.
func greeted(t *testing.T, p peer.Plan, by [64]byte, isOurs bool, log []byte) []byte {
	t.Helper()
	public := curve.Public([32]byte(by[32:]))
	c := hello.Client{
		Random: [32]byte(by[:32]), Suites: []int{0x1303}, Versions: []int{0x0304}, Groups: []int{0x1d},
		Schemes: []int{0xfe01}, Modes: []byte{1}, Shares: []hello.Share{{Group: 0x1d, Key: public[:]}},
	}
	if !p.Share {
		c.Groups = []int{0x1d, 0x17}
	}
	if !isOurs {
		c.Shares = []hello.Share{{Group: 0x17, Key: make([]byte, 32)}}
	}
	if n := len(p.Ticket); n > 0 && n < 256 {
		c.Ids, c.Binders = []hello.Id{{Ticket: p.Ticket}}, [][]byte{make([]byte, 32)}
	}
	b, e := hello.PutClient(c)
	if e != 0 {
		t.Fatal(e)
	}
	if len(c.Ids) > 0 {
		binder := schedule.Binder(p.Psk[:], sha.Sum(joined(log, laid(1, b)[:4+len(b)-35])))
		copy(b[len(b)-32:], binder[:])
	}
	return laid(1, b)
}

// texts is the texts of plain Handshake records, side by side.
func texts(t *testing.T, b []byte) []byte {
	t.Helper()
	var out []byte
	for r := stream.New(b); len(r.Left()) > 0; {
		kind, body, ok, e := r.Take()
		if kind != 22 || !ok || e != 0 || len(body) == 0 {
			t.Fatalf("no Handshake record: %d %x %d", kind, body, e)
		}
		out = append(out, body...)
	}
	return out
}

// TestHello: P17.1; all bytes, and the whole Peer.
func TestHello(t *testing.T) {
	for seed, n := range []int{0, 1, 20, 100, 101, 102, 103, 104, 105, 106, 200, 254, 255} {
		for _, share := range []bool{true, false} {
			plan := peer.Plan{Key: probe.Array(1), Share: share, Ticket: probe.Bytes(n, n), Psk: probe.Array(seed)}
			p, b := peer.Hello(plan, random(seed))
			want := greeted(t, plan, random(seed), share, nil)
			if !bytes.HasPrefix(b, []byte{0x16, 3, 3}) || !bytes.Equal(texts(t, b), want) {
				t.Errorf("a ticket of %d bytes: %x, not %x", n, b, want)
			}
			if len(want) <= 256 && !bytes.Equal(b, plain(22, want)) {
				t.Errorf("a ticket of %d bytes: %x, not in one record", n, b)
			}
			is(t, "a greeting", p, nil, 0, peer.Peer{Plan: plan, Phase: 1, Random: random(seed), Log: want, Expect: 2, Alert: -1}, nil, 0)
		}
	}
}

// TestLongTickets: P17.1; one of more than 255 bytes is none.
func TestLongTickets(t *testing.T) {
	for _, n := range []int{256, 257, 1000, 70000} {
		for _, share := range []bool{true, false} {
			plan := peer.Plan{Key: probe.Array(1), Share: share, Ticket: make([]byte, n), Psk: probe.Array(2)}
			p, b := peer.Hello(plan, random(1))
			plan.Ticket = nil
			want, wantBytes := peer.Hello(plan, random(1))
			is(t, "a long ticket", p, b, 0, want, wantBytes, 0)
		}
	}
}

// TestPhases: the numbers of the chapter's order.
func TestPhases(t *testing.T) {
	for i, phase := range []int{peer.Begin, peer.Greeted, peer.Keyed, peer.Open, peer.Closed} {
		if i != phase {
			t.Errorf("phase %d is %d", i, phase)
		}
	}
}

// TestSecondGreeting: P17.1; as the first one, with our share, behind a Log as the server's.
func TestSecondGreeting(t *testing.T) {
	for _, ticket := range []string{"", "ticket", string(probe.Bytes(255, 1))} {
		plan := plan(false, ticket)
		p, b := peer.Hello(plan, random(3))
		retry, e := hello.PutServer(hello.Server{Suite: 0x1303, Version: 0x0304, Share: hello.Share{Group: 0x1d}, Retry: true, Psk: -1})
		if e != 0 {
			t.Fatal(e)
		}
		sum := sha.Sum(texts(t, b))
		log := joined(laid(254, sum[:]), laid(2, retry))
		second := greeted(t, plan, random(3), true, log)
		want := peer.Peer{Plan: plan, Phase: 1, Random: random(3), Log: joined(log, second), Expect: 2, Retried: true, Alert: -1}
		for _, n := range []int{1000, 1} {
			x, out := takesPieces(t, p, plain(22, laid(2, retry)), n)
			is(t, "a second greeting", x, nil, 0, want, nil, 0)
			if !bytes.Equal(texts(t, out), second) {
				t.Errorf("%x, not %x", out, second)
			}
		}
	}
}
