package peer_test

import (
	"bytes"
	"strconv"
	"testing"

	"relay/api"
	"relay/peer"
	"relay/probe"
	"relay/record"
	"relay/schedule"
	"relay/server"
	"relay/sha"
)

// agree: have both sides the same sum, secrets and keys?
func agree(t *testing.T, what string, x pair) {
	t.Helper()
	p, s := x.p, x.s
	if p.Sum != s.Sum || p.Secrets != s.Secrets || p.In != s.Out || p.Out != s.In || !bytes.Equal(p.Log, s.Log) {
		t.Errorf("%s: other secrets", what)
	}
	if p.InEpoch != s.OutEpoch || p.OutEpoch != s.InEpoch || p.InSeq != s.OutSeq || p.OutSeq != s.InSeq {
		t.Errorf("%s: other numbers: %d of %d and %d of %d, %d of %d and %d of %d", what, p.InSeq, p.InEpoch, p.OutSeq, p.OutEpoch, s.OutSeq, s.OutEpoch, s.InSeq, s.InEpoch)
	}
}

// TestConnect: P17.1, P5; with and without a share, with tickets that are known or not, in whatever pieces.
func TestConnect(t *testing.T) {
	for _, share := range []bool{true, false} {
		for _, ticket := range []string{"", "ticket", "unknown", string(probe.Bytes(255, 1)), string(probe.Bytes(256, 1))} {
			what := "share " + strconv.FormatBool(share) + ", ticket " + strconv.Itoa(len(ticket))
			whole := connect(t, plan(share, ticket), host(), 1, 100000)
			agree(t, what, whole)
			isResumed := ticket == "ticket"
			if whole.p.Retried == share || whole.p.Resumed != isResumed || whole.p.Expect != 0 || whole.p.Alert != -1 || whole.p.OutEpoch != 2 || whole.p.Sum == [32]byte{} {
				t.Errorf("%s: %v", what, whole.p)
			}
			if isResumed != (string(whole.s.Used) == "ticket") || len(whole.p.Left) > 0 || len(whole.p.Part) > 0 {
				t.Errorf("%s: by %q, left are %x and %x", what, whole.s.Used, whole.p.Left, whole.p.Part)
			}
			for _, n := range []int{1, 2, 5, 64, 255, 300} {
				x := connect(t, plan(share, ticket), host(), 1, n)
				if !same(x.p, whole.p) {
					t.Errorf("%s, in pieces of %d: %v, not %v", what, n, x.p, whole.p)
				}
			}
		}
	}
}

// TestConnectWithLongChains: P17.1; messages that stand in several records.
func TestConnectWithLongChains(t *testing.T) {
	for seed := range 20 {
		h := host()
		h.Key, h.Chain = probe.Array(seed), nil
		for i := range 1 + seed%4 {
			h.Chain = append(h.Chain, probe.Bytes(300-(seed*31)%299, i))
		}
		plan := plan(seed%3 > 0, "")
		plan.Key = h.Key
		agree(t, "a long chain", connect(t, plan, h, seed, 1+seed*13))
	}
}

// TestKnownSecrets: P17.1; keys are those of the schedule, not just the same on both sides.
func TestKnownSecrets(t *testing.T) {
	x := open(t)
	log := x.p.Log[:len(x.p.Log)-36]
	if x.p.Sum != sha.Sum(x.p.Log) || x.p.Out != schedule.Traffic(x.p.Secrets.Master, "c ap traffic", sha.Sum(log)) ||
		x.p.In != schedule.Traffic(x.p.Secrets.Master, "s ap traffic", sha.Sum(log)) {
		t.Errorf("%v", x.p)
	}
}

// TestExpect: P17.1; message by message, each in a record of its own.
func TestExpect(t *testing.T) {
	for _, x := range []struct {
		ticket string
		expect []int
	}{{"", []int{8, 11, 15, 20}}, {"ticket", []int{8, 20}}} {
		f := flightTo(t, plan(true, x.ticket), host())
		for i, want := range x.expect {
			p := f.keyed(t, i)
			if p.Phase != peer.Keyed || p.Expect != want || p.InSeq != i || p.InEpoch != 1 || p.OutEpoch != 1 || p.Resumed != (x.ticket != "") {
				t.Errorf("behind %d messages: phase %d, %d is expected, number %d of %d", i, p.Phase, p.Expect, p.InSeq, p.InEpoch)
			}
		}
		p := f.keyed(t, len(x.expect)-1)
		q, out := takes(t, p, sealed(f.out, len(x.expect)-1, 22, f.messages[len(x.expect)-1]))
		if q.Phase != peer.Open || q.Expect != 0 || q.InSeq != 0 || q.OutSeq != 0 || q.InEpoch != 2 || q.OutEpoch != 2 {
			t.Errorf("behind all: phase %d, %d is expected", q.Phase, q.Expect)
		}
		ours := schedule.Verify(p.Out, sha.Sum(joined(p.Log, f.messages[len(x.expect)-1])))
		if !bytes.Equal(out, sealed(p.Out, 0, 22, laid(20, ours[:]))) {
			t.Errorf("its Finished: %x", out)
		}
	}
}

// TestFlightInAnyRecords: P17.1; messages side by side, or in parts.
func TestFlightInAnyRecords(t *testing.T) {
	f := flightTo(t, plan(true, ""), host())
	text := joined(f.messages...)
	for _, n := range []int{1, 2, 3, 5, 6, 7, 20, 50, 95, 256} {
		p, seq := f.keyed(t, 0), 0
		for len(text)/n > 60 {
			n++
		}
		for from := 0; from < len(text); from += n {
			p, _ = takes(t, p, sealed(f.out, seq, 22, text[from:min(from+n, len(text))]))
			seq++
		}
		if p.Phase != peer.Open {
			t.Errorf("records of %d bytes: phase %d", n, p.Phase)
		}
	}
}

// TestWrites: P17.2; both ways, with keys that run out and that are turned, in whatever pieces.
func TestWrites(t *testing.T) {
	for _, n := range []int{1, 7, 100, 100000} {
		x := open(t)
		var toHost, toPeer, heard []byte
		for i := range 40 {
			text := probe.Bytes(i*i, i)
			p, b, e := peer.Write(x.p, text)
			if e != api.OK {
				t.Fatal(e)
			}
			var data, out []byte
			x.p = p
			x.s, out, data = hear(t, x.s, host(), b)
			if len(out) > 0 {
				t.Errorf("%x is sent", out)
			}
			toHost, heard = append(toHost, text...), append(heard, data...)
			s, d, _ := server.Write(x.s, free(), text)
			x.s = s
			x.p, b = takesPieces(t, x.p, d.Send, n)
			toPeer = append(toPeer, text...)
			if len(b) > 0 || !bytes.Equal(x.p.Data, toPeer) || !bytes.Equal(heard, toHost) {
				t.Fatalf("%d bytes are sent; %d of %d, and %d of %d are heard", len(b), len(x.p.Data), len(toPeer), len(heard), len(toHost))
			}
			agree(t, "then", x)
		}
		if x.p.OutEpoch < 3 || x.p.InEpoch < 3 {
			t.Errorf("epochs %d and %d", x.p.InEpoch, x.p.OutEpoch)
		}
	}
}

// TestWriteBytes: P17.2; a record a part, and a key update ahead of number 62.
func TestWriteBytes(t *testing.T) {
	x := open(t)
	for _, seq := range []int{0, 5, 60, 61, 62, 63} {
		for _, n := range []int{0, 1, 256, 257, 700} {
			p, text := x.p, probe.Bytes(n, n)
			p.OutSeq = seq
			want, bytes := p, []byte(nil)
			for _, part := range record.Parts(text) {
				if want.OutSeq >= 62 {
					bytes = append(bytes, sealed(want.Out, want.OutSeq, 22, []byte{24, 0, 0, 1, 0})...)
					want.Out, want.OutSeq, want.OutEpoch = record.Next(want.Out), 0, want.OutEpoch+1
				}
				bytes = append(bytes, sealed(want.Out, want.OutSeq, 23, part)...)
				want.OutSeq++
			}
			y, b, e := peer.Write(p, text)
			is(t, "Write", y, b, e, want, bytes, 0)
		}
	}
}

// TestUpdates: P17.1 and P17.2; by either side, asked for or not.
func TestUpdates(t *testing.T) {
	x := open(t)
	for i := range 30 {
		ask := i%2 == 0
		p, b, e := peer.Update(x.p, ask)
		want := x.p
		want.Out, want.OutSeq, want.OutEpoch = record.Next(x.p.Out), 0, x.p.OutEpoch+1
		is(t, "Update", p, b, e, want, sealed(x.p.Out, x.p.OutSeq, 22, laid(24, []byte{byte(1 - i%2)})), 0)
		var out []byte
		x.p = p
		x.s, out, _ = hear(t, x.s, host(), b)
		if (len(out) > 0) != ask {
			t.Errorf("%x is sent", out)
		}
		x.p, b = takes(t, x.p, out)
		if len(b) > 0 {
			t.Errorf("%x is sent", b)
		}
		agree(t, "behind a peer's", x)
		s, d, _ := server.Update(x.s, free(), i%3 == 0)
		x.s = s
		x.p, b = takes(t, x.p, d.Send)
		if (len(b) > 0) != (i%3 == 0) {
			t.Errorf("%x is sent", b)
		}
		x.s, _, _ = hear(t, x.s, host(), b)
		agree(t, "behind a server's", x)
	}
}

// TestTickets: P17.1; each that comes, with its secret, by which a later connection is resumed.
func TestTickets(t *testing.T) {
	x, h := open(t), host()
	var want []peer.New
	for i := range 5 {
		ticket, nonce := probe.Bytes(1+i*63, i), probe.Bytes(i, i)
		s, d, secret, e := server.Give(x.s, free(), 600, i, nonce, ticket)
		if e != api.OK {
			t.Fatal(e)
		}
		var b []byte
		x.s = s
		x.p, b = takesPieces(t, x.p, d.Send, 1+i*100)
		want = append(want, peer.New{Ticket: ticket, Psk: secret})
		h.Tickets = append(h.Tickets, server.Known{Ticket: ticket, Psk: secret})
		if len(b) > 0 {
			t.Errorf("%x is sent", b)
		}
	}
	if !same(peer.Peer{Tickets: x.p.Tickets}, peer.Peer{Tickets: want}) {
		t.Errorf("%v, not %v", x.p.Tickets, want)
	}
	for _, n := range want {
		for _, share := range []bool{true, false} {
			y := connect(t, peer.Plan{Share: share, Ticket: n.Ticket, Psk: n.Psk}, h, 9, 50)
			agree(t, "resumed", y)
			if !y.p.Resumed || !bytes.Equal(y.s.Used, n.Ticket) {
				t.Errorf("by %q", y.s.Used)
			}
		}
	}
}

// TestClose: P17.2; an alert 0, and nothing behind it.
func TestClose(t *testing.T) {
	for _, seq := range []int{0, 7, 61, 62, 63} {
		x := open(t)
		x.p.OutSeq, x.s.InSeq = seq, seq
		want := x.p
		want.Phase, want.Alert, want.OutSeq = peer.Closed, 0, seq+1
		p, b, e := peer.Close(x.p)
		is(t, "Close", p, b, e, want, sealed(x.p.Out, seq, 21, []byte{1, 0}), 0)
		s, _, _ := hear(t, x.s, host(), b)
		if s.Phase != server.Closed || s.Alert != 0 {
			t.Errorf("phase %d, alert %d", s.Phase, s.Alert)
		}
	}
}

// TestNotOpen: P17.1; the Peer stays as it was.
func TestNotOpen(t *testing.T) {
	f := flightTo(t, plan(true, ""), host())
	closed, _, _ := peer.Close(open(t).p)
	for _, p := range []peer.Peer{{}, f.p, f.keyed(t, 0), f.keyed(t, 3), closed} {
		x, b, e := peer.Write(p, []byte("text"))
		is(t, "Write", x, b, e, p, nil, api.ErrState)
		x, b, e = peer.Write(p, nil)
		is(t, "Write of nothing", x, b, e, p, nil, api.ErrState)
		x, b, e = peer.Update(p, true)
		is(t, "Update", x, b, e, p, nil, api.ErrState)
		x, b, e = peer.Close(p)
		is(t, "Close", x, b, e, p, nil, api.ErrState)
	}
}

// TestNumber64: P17.2; as the server's, it is never used.
func TestNumber64(t *testing.T) {
	p := open(t).p
	p.OutSeq = 64
	want := p
	want.Phase = peer.Closed
	x, b, e := peer.Write(p, []byte("text"))
	is(t, "Write", x, b, e, want, nil, api.ErrEnd)
	x, b, e = peer.Update(p, true)
	is(t, "Update", x, b, e, want, nil, api.ErrEnd)
	x, b, e = peer.Close(p)
	is(t, "Close", x, b, e, want, nil, api.ErrEnd)
	x, b, e = peer.Write(p, nil)
	is(t, "Write of nothing", x, b, e, p, nil, 0)
}
