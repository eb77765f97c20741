package peer_test

import (
	"bytes"
	"reflect"
	"slices"
	"testing"

	"relay/api"
	"relay/message"
	"relay/peer"
	"relay/probe"
	"relay/record"
	"relay/schedule"
	"relay/server"
	"relay/sha"
	"relay/stream"
)

// joined is all, side by side.
func joined(all ...[]byte) []byte { return slices.Concat(all...) }

// free has all numbers of many epochs reserved.
func free() []int { return slices.Repeat([]int{64}, 200) }

// random is 64 bytes, others for each seed.
func random(seed int) [64]byte { return [64]byte(probe.Bytes(64, seed)) }

// laid is a message's bytes.
func laid(kind int, body []byte) []byte {
	return append([]byte{byte(kind), byte(len(body) >> 16), byte(len(body) >> 8), byte(len(body))}, body...)
}

// plain and sealed are records.
func plain(kind int, text []byte) []byte {
	return joined([]byte{byte(kind), 3, 3, byte(len(text) >> 8), byte(len(text))}, text)
}

func sealed(secret [32]byte, seq, kind int, text []byte) []byte {
	b, _ := record.Seal(record.Derive(secret), uint64(seq), kind, text, 0)
	return b
}

// host knows a ticket; plan knows the host.
func host() server.Host {
	return server.Host{Key: probe.Array(5), Chain: [][]byte{{1}}, Tickets: []server.Known{{Ticket: []byte("other")}, {Ticket: []byte("ticket"), Psk: probe.Array(6)}}}
}

func plan(share bool, ticket string) peer.Plan {
	return peer.Plan{Key: probe.Array(5), Share: share, Ticket: []byte(ticket), Psk: probe.Array(6)}
}

// hear has a server take all that comes; what it sends, and what is delivered to it.
func hear(t *testing.T, s server.State, h server.Host, b []byte) (server.State, []byte, []byte) {
	t.Helper()
	var out, data []byte
	r := stream.New(b)
	for {
		kind, body, ok, e := r.Take()
		if e != api.OK || !ok && len(r.Left()) > 0 {
			t.Fatalf("what a peer sends are no records: %d", e)
		}
		if !ok {
			return s, out, data
		}
		x, d, e := server.Take(s, h, free(), kind, body, random(77))
		if e != api.OK {
			t.Fatalf("the server: %d", e)
		}
		s, out, data = x, append(out, d.Send...), append(data, d.Data...)
	}
}

// takes is Take without an error.
func takes(t *testing.T, p peer.Peer, b []byte) (peer.Peer, []byte) {
	t.Helper()
	x, out, e := peer.Take(p, b)
	if e != api.OK {
		t.Fatalf("the peer: %d, alert %d", e, x.Alert)
	}
	return x, out
}

// takesPieces has bytes come to a peer in pieces of n bytes.
func takesPieces(t *testing.T, p peer.Peer, b []byte, n int) (peer.Peer, []byte) {
	t.Helper()
	var out []byte
	for piece := range slices.Chunk(b, n) {
		var sent []byte
		p, sent = takes(t, p, piece)
		out = append(out, sent...)
	}
	return p, out
}

// pair is both sides of a connection.
type pair struct {
	p peer.Peer
	s server.State
}

// connect lets both sides come to Open, with a peer's bytes in pieces of n.
func connect(t *testing.T, plan peer.Plan, h server.Host, seed, n int) pair {
	t.Helper()
	x := pair{s: server.New()}
	var b []byte
	x.p, b = peer.Hello(plan, random(seed))
	for range 4 {
		var out []byte
		x.s, out, _ = hear(t, x.s, h, b)
		x.p, b = takesPieces(t, x.p, out, n)
	}
	if x.p.Phase != peer.Open || x.s.Phase != server.Open {
		t.Fatalf("phases %d and %d, alerts %d and %d", x.p.Phase, x.s.Phase, x.p.Alert, x.s.Alert)
	}
	return x
}

// open is a connection that is open.
func open(t *testing.T) pair {
	t.Helper()
	return connect(t, plan(true, ""), host(), 1, 1000)
}

// bare is a list, nil if it is empty: they are one.
func bare[T any](list []T) []T {
	if len(list) == 0 {
		return nil
	}
	return list
}

func same(a, b peer.Peer) bool {
	for _, p := range []*peer.Peer{&a, &b} {
		p.Plan.Ticket, p.Log, p.Left, p.Part, p.Data = bare(p.Plan.Ticket), bare(p.Log), bare(p.Left), bare(p.Part), bare(p.Data)
		p.Tickets = bare(slices.Clone(p.Tickets))
		for i, ticket := range p.Tickets {
			p.Tickets[i].Ticket = bare(ticket.Ticket)
		}
	}
	return reflect.DeepEqual(a, b)
}

// is holds what was answered against what must be.
func is(t *testing.T, what string, p peer.Peer, b []byte, e api.Errno, want peer.Peer, wantBytes []byte, wantErrno api.Errno) {
	t.Helper()
	if e != wantErrno {
		t.Errorf("%s: error %d, not %d", what, e, wantErrno)
	}
	if !same(p, want) {
		t.Errorf("%s: the Peer is\n%v, not\n%v", what, p, want)
	}
	if !bytes.Equal(b, wantBytes) {
		t.Errorf("%s: %x is sent, not %x", what, b, wantBytes)
	}
}

// closes: these bytes close p by an error, with nothing sent, in one piece and in many; and nothing is taken any more.
func closes(t *testing.T, what string, p peer.Peer, b []byte, alert int) {
	t.Helper()
	x, out, e := peer.Take(p, b)
	if e != api.ErrAlert || x.Phase != peer.Closed || x.Alert != alert || len(out) != 0 || len(x.Left) != 0 || !bytes.Equal(x.Data, p.Data) {
		t.Errorf("%s: error %d, phase %d, alert %d, not %d, %d bytes are sent, %d are left", what, e, x.Phase, x.Alert, alert, len(out), len(x.Left))
	}
	y := p
	for i := range b {
		if y.Phase == peer.Closed {
			break
		}
		y, out, e = peer.Take(y, b[i:i+1])
		if e != api.OK && y.Phase != peer.Closed {
			t.Errorf("%s: error %d in phase %d", what, e, y.Phase)
		}
	}
	if e != api.ErrAlert || y.Phase != peer.Closed || y.Alert != alert || len(out) != 0 || len(y.Left) != 0 {
		t.Errorf("%s, byte by byte: error %d, phase %d, alert %d, not %d", what, e, y.Phase, y.Alert, alert)
	}
	z, out, e := peer.Take(x, b)
	is(t, what+", again", z, out, e, peer.Peer{}, nil, api.ErrEnd)
}

// flight is what a server says to a peer, message by message, and the keys of it.
type flight struct {
	p        peer.Peer
	hello    []byte
	out      [32]byte
	messages [][]byte
}

// flightTo is that to a peer that has greeted, perhaps twice.
func flightTo(t *testing.T, plan peer.Plan, h server.Host) flight {
	t.Helper()
	p, b := peer.Hello(plan, random(1))
	s := server.New()
	if !plan.Share {
		var out []byte
		s, out, _ = hear(t, s, h, b)
		p, b = takes(t, p, out)
	}
	var d server.Did
	for r := stream.New(b); s.Phase != server.Wait; {
		kind, body, ok, _ := r.Take()
		if !ok {
			t.Fatalf("the server is in phase %d, alert %d", s.Phase, s.Alert)
		}
		s, d, _ = server.Take(s, h, free(), kind, body, random(77))
	}
	f := flight{p: p, out: d.Seals[0].Secret}
	r := stream.New(d.Send)
	_, f.hello, _, _ = r.Take()
	var text []byte
	for i := range d.Seals {
		_, body, _, _ := r.Take()
		_, part, _ := record.Open(record.Derive(f.out), uint64(i), body)
		text = append(text, part...)
	}
	for len(text) > 0 {
		m, rest, _, _ := message.Take(text)
		f.messages, text = append(f.messages, laid(m.Kind, m.Body)), rest
	}
	return f
}

// keyed is the peer behind the ServerHello, and so many messages, each in a record of its own.
func (f flight) keyed(t *testing.T, n int) peer.Peer {
	t.Helper()
	p, _ := takes(t, f.p, plain(22, f.hello))
	for i, m := range f.messages[:n] {
		p, _ = takes(t, p, sealed(f.out, i, 22, m))
	}
	return p
}

// finished is a server's Finished for a peer that knows these messages.
func (f flight) finished(p peer.Peer) []byte {
	b := schedule.Verify(f.out, sha.Sum(p.Log))
	return laid(20, b[:])
}
