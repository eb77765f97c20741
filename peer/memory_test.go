package peer_test

import (
	"bytes"
	"slices"
	"testing"

	"relay/api"
	"relay/message"
	"relay/peer"
	"relay/probe"
)

// clone is p in memory of its own.
func clone(p peer.Peer) peer.Peer {
	for _, list := range []*[]byte{&p.Plan.Ticket, &p.Log, &p.Left, &p.Part, &p.Data} {
		*list = slices.Clone(*list)
	}
	p.Tickets = slices.Clone(p.Tickets)
	for i, ticket := range p.Tickets {
		p.Tickets[i].Ticket = slices.Clone(ticket.Ticket)
	}
	return p
}

// lend is p whose lists are lent; its list of tickets has spare room.
func lend(p peer.Peer) (peer.Peer, []probe.Lent) {
	var all []probe.Lent
	p.Tickets = append(append(make([]peer.New, 0, 9), p.Tickets...), peer.New{Psk: probe.Array(1)})[:len(p.Tickets)]
	lists := []*[]byte{&p.Plan.Ticket, &p.Log, &p.Left, &p.Part, &p.Data}
	for i := range p.Tickets {
		lists = append(lists, &p.Tickets[i].Ticket)
	}
	for _, list := range lists {
		one := probe.Lend(*list)
		*list = one.Bytes()
		all = append(all, one)
	}
	return p, all
}

// lists is all lists of a Peer.
func lists(p peer.Peer) [][]byte {
	out := [][]byte{p.Plan.Ticket, p.Log, p.Left, p.Part, p.Data}
	for _, ticket := range p.Tickets {
		out = append(out, ticket.Ticket)
	}
	return out
}

// asked is a call of a Peer, with bytes.
type asked struct {
	what string
	p    peer.Peer
	b    []byte
	do   func(p peer.Peer, b []byte) (peer.Peer, []byte, api.Errno)
}

// askAll are calls that change all kinds of lists, or none.
func askAll(t *testing.T) []asked {
	t.Helper()
	f := flightTo(t, plan(false, "ticket"), host())
	first := greeting(plan(false, "ticket"))
	p := open(t).p
	p.Plan.Ticket = []byte("old")
	body, _ := message.PutNew(message.New{Ticket: []byte("given")})
	ticket := sealed(p.In, 1, 22, laid(4, body))
	p, _ = takes(t, p, joined(sealed(p.In, 0, 23, []byte("data")), ticket, sealed(p.In, 2, 22, []byte{24, 0}), []byte{23}))
	rest := sealed(p.In, 3, 22, []byte{0, 1, 1})[1:]
	update := func(p peer.Peer, _ []byte) (peer.Peer, []byte, api.Errno) { return peer.Update(p, true) }
	shut := func(p peer.Peer, _ []byte) (peer.Peer, []byte, api.Errno) { return peer.Close(p) }
	last := clone(p)
	last.OutSeq = 64
	return []asked{
		{"a retry", first, said(t, retry()), peer.Take},
		{"a flight", f.p, joined(plain(22, f.hello), sealed(f.out, 0, 22, joined(f.messages...))), peer.Take},
		{"a part of a record", p, rest[:9], peer.Take},
		{"an update", p, rest, peer.Take},
		{"no byte", p, nil, peer.Take},
		{"an error", p, sealed(p.In, 3, 23, []byte("data"))[1:], peer.Take},
		{"an alert", first, plain(21, []byte{2, 9}), peer.Take},
		{"Write", p, probe.Bytes(300, 1), peer.Write},
		{"Write, not now", first, probe.Bytes(300, 1), peer.Write},
		{"Write by number 64", last, probe.Bytes(300, 1), peer.Write},
		{"Update", p, nil, update},
		{"Close", p, nil, shut},
	}
}

// TestMemory: P17.4.
func TestMemory(t *testing.T) {
	for _, x := range askAll(t) {
		want, wantBytes, wantErrno := x.do(clone(x.p), slices.Clone(x.b))
		want, wantBytes = clone(want), slices.Clone(wantBytes)
		p, all := lend(x.p)
		text := probe.Lend(x.b)
		all = append(all, text)
		got, out, e := x.do(p, text.Bytes())
		for i, one := range all {
			if !one.Kept() {
				t.Errorf("%s: list %d that was handed in was changed", x.what, i)
			}
			one.Spoil()
		}
		if len(p.Tickets) != len(x.p.Tickets) || p.Tickets[:len(p.Tickets)+1][len(p.Tickets)].Psk != probe.Array(1) {
			t.Errorf("%s: the tickets that were handed in were changed", x.what)
		}
		for i := range p.Tickets {
			p.Tickets[i].Psk = probe.Array(2)
		}
		is(t, x.what, got, out, e, want, wantBytes, wantErrno)
		apart(t, x.what, got, out, want, wantBytes)
	}
}

// apart: is each list of an answer as it must be, also when those ahead of it are spoiled?
func apart(t *testing.T, what string, p peer.Peer, b []byte, want peer.Peer, wantBytes []byte) {
	t.Helper()
	all, wants := append(lists(p), b), append(lists(want), wantBytes)
	for i := range all {
		if !bytes.Equal(all[i], wants[i]) {
			t.Errorf("%s: list %d shares memory with one ahead", what, i)
		}
		probe.Spoil(all[i])
	}
}

// TestMemoryOfHello: P17.4.
func TestMemoryOfHello(t *testing.T) {
	for _, n := range []int{0, 1, 255, 256} {
		ticket := probe.Lend(probe.Bytes(n, 1))
		plan := peer.Plan{Key: probe.Array(1), Share: true, Ticket: ticket.Bytes(), Psk: probe.Array(2)}
		want, wantBytes := peer.Hello(plan, random(1))
		want, wantBytes = clone(want), slices.Clone(wantBytes)
		p, b := peer.Hello(plan, random(1))
		if !ticket.Kept() {
			t.Error("the ticket was changed")
		}
		ticket.Spoil()
		is(t, "Hello", p, b, 0, want, wantBytes, 0)
		apart(t, "Hello", p, b, want, wantBytes)
	}
}
