package peer_test

import (
	"bytes"
	"math"
	"testing"

	"relay/api"
	"relay/peer"
	"relay/probe"
	"relay/record"
	"relay/schedule"
	"relay/server"
	"relay/stream"
)

// texts3 are what is written in rows that are bent.
func texts3() [][]byte { return [][]byte{[]byte("first"), probe.Bytes(30, 1), []byte("third")} }

// TestBentToPeer: P17.2; each byte of a row of records is bent, in each bit: only what stands ahead is delivered.
func TestBentToPeer(t *testing.T) {
	x := open(t)
	var row []byte
	var ends []int
	s := x.s
	for _, text := range texts3() {
		next, d, _ := server.Write(s, free(), text)
		s, row = next, append(row, d.Send...)
		ends = append(ends, len(row))
	}
	for i := range row {
		ahead := delivered(ends, i)
		for bit := range 8 {
			bent := bytes.Clone(row)
			bent[i] ^= 1 << bit
			for _, n := range []int{1000, 1, 13} {
				p, isClosed := pieced(t, x.p, bent, n)
				if isThird(ends, i) {
					if !bytes.Equal(p.Data, bytes.Join(texts3(), nil)) {
						t.Errorf("byte %d, which isn't looked at: %q", i, p.Data)
					}
					continue
				}
				if !bytes.Equal(p.Data, ahead) {
					t.Errorf("byte %d: %q is delivered, not %q", i, p.Data, ahead)
				}
				if !isClosed && len(p.Left) == 0 {
					t.Errorf("byte %d: nothing is wrong", i)
				}
			}
		}
	}
}

// delivered is what stands in whole records ahead of byte i.
func delivered(ends []int, i int) []byte {
	var out []byte
	for k, end := range ends {
		if i >= end {
			out = append(out, texts3()[k]...)
		}
	}
	return out
}

// isThird: is byte i the third one of a record? Of a record's version only the second byte is looked at, and the third is sealed as it must be.
func isThird(ends []int, i int) bool {
	return i == 2 || i == ends[0]+2 || i == ends[1]+2
}

// pieced has bytes come in pieces of n, till it closes.
func pieced(t *testing.T, p peer.Peer, b []byte, n int) (peer.Peer, bool) {
	t.Helper()
	for from := 0; from < len(b); from += n {
		x, out, e := peer.Take(p, b[from:min(from+n, len(b))])
		if e != api.OK && e != api.ErrAlert || len(out) > 0 {
			t.Fatalf("error %d, %d bytes are sent", e, len(out))
		}
		if p = x; p.Phase == peer.Closed {
			return p, true
		}
	}
	return p, false
}

// TestBentToServer: P17.2; what a peer writes is delivered up to what is bent.
func TestBentToServer(t *testing.T) {
	x := open(t)
	var row []byte
	var ends []int
	p := x.p
	for _, text := range texts3() {
		next, b, _ := peer.Write(p, text)
		p, row = next, append(row, b...)
		ends = append(ends, len(row))
	}
	for i := range row {
		if isThird(ends, i) {
			continue
		}
		bent := bytes.Clone(row)
		bent[i] ^= 1 << (i % 8)
		s, data, r := x.s, []byte(nil), stream.New(bent)
		for s.Phase != server.Closed {
			kind, body, ok, e := r.Take()
			if !ok || e != api.OK {
				break
			}
			next, d, e := server.Take(s, host(), free(), kind, body, random(1))
			if e != api.OK {
				t.Fatal(e)
			}
			s, data = next, append(data, d.Data...)
		}
		if !bytes.Equal(data, delivered(ends, i)) {
			t.Errorf("byte %d: %q is delivered", i, data)
		}
	}
}

// TestBentHandshake: P17.1 and P17.3; a peer to which something bent comes closes, waits, or has the server's sum and keys.
func TestBentHandshake(t *testing.T) {
	for _, ticket := range []string{"", "ticket"} {
		p, b := peer.Hello(plan(true, ticket), random(1))
		s, flight, _ := hear(t, server.New(), host(), b)
		opened := 0
		for i := range flight {
			bent := bytes.Clone(flight)
			bent[i] ^= 1 << (i % 8)
			x, out, e := peer.Take(p, bent)
			switch {
			case x.Phase == peer.Open:
				opened++
				then, _, _ := hear(t, s, host(), out)
				if then.Phase != server.Open || then.Sum != x.Sum || e != api.OK {
					t.Errorf("byte %d: phase %d, error %d, other sums", i, then.Phase, e)
				}
			case (x.Phase == peer.Closed) != (e == api.ErrAlert), len(out) > 0:
				t.Errorf("byte %d: phase %d, error %d, %d bytes are sent", i, x.Phase, e, len(out))
			}
		}
		if opened != 2 {
			t.Errorf("%d bytes aren't looked at", opened)
		}
	}
}

// TestBentGreetings: P5; a server to which a bent greeting comes closes, waits, or is told by the Finished that sums are others.
func TestBentGreetings(t *testing.T) {
	p, b := peer.Hello(plan(true, "ticket"), random(1))
	for i := 5; i < len(b); i++ {
		bent := bytes.Clone(b)
		bent[i] ^= 1 << (i % 8)
		s, out, _ := hear(t, server.New(), host(), bent)
		x, sent, e := peer.Take(p, out)
		if x.Phase == peer.Open || len(sent) > 0 {
			t.Errorf("byte %d: phases %d and %d, error %d", i, s.Phase, x.Phase, e)
		}
	}
}

// wild is a Peer of any numbers and bytes.
func wild(seed int) peer.Peer {
	pick := probe.Bytes(64, seed)
	number := func(i int) int {
		far := []int{0, 1, 2, 3, 4, 8, 11, 15, 20, 61, 62, 63, 64, 65, -1, math.MinInt, math.MaxInt}
		return far[int(pick[i])%len(far)]
	}
	return peer.Peer{
		Plan:  peer.Plan{Key: probe.Array(1), Share: pick[0]%2 == 0, Ticket: probe.Bytes(int(pick[1])*2, 1), Psk: probe.Array(2)},
		Phase: int(pick[2]%8) - 1, Random: random(seed), Log: probe.Bytes(int(pick[3]), 2), In: probe.Array(3), Out: probe.Array(4),
		InSeq: number(4), OutSeq: number(5), InEpoch: number(6), OutEpoch: number(7), Expect: []int{2, 8, 11, 15, 20, 0, -1, 4}[pick[8]%8],
		Retried: pick[9]%2 == 0, Resumed: pick[10]%2 == 0, Left: probe.Bytes(int(pick[11])%3, 3), Part: probe.Bytes(int(pick[12])%3, 4),
		Secrets: schedule.Secrets{Hand: probe.Array(5), Master: probe.Array(6)}, Alert: number(13),
	}
}

// TestWhateverStands: P17.3; whatever Peer, and whatever comes.
func TestWhateverStands(t *testing.T) {
	for seed := range 3000 {
		p, pick := wild(seed), probe.Bytes(20, seed+1)
		kind, text := 19+int(pick[0])%6, probe.Bytes(int(pick[1])%40, seed+2)
		switch pick[2] % 4 {
		case 0:
			text = said(t, answer())[5:]
		case 1:
			text = said(t, retry())[5:]
		case 2:
			text = laid([]int{8, 11, 15, 20, 4, 24}[pick[3]%6], [][]byte{{0, 0}, {0, 0, 0, 6, 0, 0, 1, 9, 0, 0}, {0}, {1}, text}[pick[4]%5])
		}
		b := sealed(p.In, p.InSeq, []int{21, 22, 23, 22}[pick[5]%4], text)
		if pick[6]%2 == 0 {
			b = plain(kind, text)
		}
		was := p
		x, out, e := peer.Take(p, b)
		if e != api.OK && len(out) > 0 || e == api.ErrAlert && x.Phase != peer.Closed || e != api.OK && e != api.ErrAlert && e != api.ErrEnd {
			t.Errorf("seed %d: error %d, phase %d", seed, e, x.Phase)
		}
		for _, do := range []func() (peer.Peer, []byte, api.Errno){
			func() (peer.Peer, []byte, api.Errno) { return peer.Write(p, text) },
			func() (peer.Peer, []byte, api.Errno) { return peer.Update(p, seed%2 == 0) },
			func() (peer.Peer, []byte, api.Errno) { return peer.Close(p) },
		} {
			if _, out, e := do(); e != api.OK && (len(out) > 0 || e != api.ErrState && e != api.ErrEnd) {
				t.Errorf("seed %d: error %d", seed, e)
			}
		}
		if !same(p, was) {
			t.Errorf("seed %d: what was handed in was changed", seed)
		}
	}
}

// TestWhateverComes: P17.3; bytes of all kinds, in pieces, to a peer in each phase, till it closes.
func TestWhateverComes(t *testing.T) {
	f := flightTo(t, plan(true, ""), host())
	begin := []peer.Peer{f.p, f.keyed(t, 0), f.keyed(t, 2), open(t).p}
	for seed := range 400 {
		p, pick := begin[seed%4], probe.Bytes(300, seed)
		for i := 0; i < len(pick) && p.Phase != peer.Closed; i += 3 {
			b := pick[i : i+2]
			switch pick[i+2] % 8 {
			case 0, 1, 2:
				b = sealed(p.In, p.InSeq, 20+int(pick[i])%4, pick[i:i+1+int(pick[i+1])%2])
			case 3, 4:
				b = sealed(p.In, p.InSeq, 23, pick[i:i+3])
			case 5:
				b = sealed(p.In, p.InSeq, 22, laid(24, []byte{pick[i] % 2}))
			case 6:
				b = plain(20+int(pick[i])%4, pick[:pick[i+1]])
			}
			x, out, e := peer.Take(p, b)
			if x.Phase < p.Phase || e == api.ErrAlert && (x.Phase != peer.Closed || len(out) > 0) || e != api.OK && e != api.ErrAlert || !bytes.HasPrefix(x.Data, p.Data) {
				t.Fatalf("seed %d: error %d, phase %d behind %d", seed, e, x.Phase, p.Phase)
			}
			p = x
		}
	}
}

// TestKeyOfAnotherEpoch: P17.2; behind an update nothing opens by the old key.
func TestKeyOfAnotherEpoch(t *testing.T) {
	p := open(t).p
	turned, _ := takes(t, p, sealed(p.In, 0, 22, laid(24, []byte{0})))
	closes(t, "the old key", turned, sealed(p.In, 0, 23, []byte("text")), 20)
	closes(t, "the old key's next", turned, sealed(p.In, 1, 23, []byte("text")), 20)
	if x, _ := takes(t, turned, sealed(record.Next(p.In), 0, 23, []byte("text"))); string(x.Data) != "text" {
		t.Errorf("%q", x.Data)
	}
}
