package peer_test

import (
	"bytes"
	"strconv"
	"testing"

	"relay/aead"
	"relay/api"
	"relay/curve"
	"relay/hello"
	"relay/message"
	"relay/peer"
	"relay/probe"
	"relay/record"
	"relay/server"
)

// greeting is a peer that has greeted by that Plan.
func greeting(plan peer.Plan) peer.Peer {
	p, _ := peer.Hello(plan, random(1))
	return p
}

// answer is a ServerHello that is all right for a peer without a ticket.
func answer() hello.Server {
	public := curve.Public(probe.Array(3))
	return hello.Server{Random: probe.Array(1), Suite: 0x1303, Version: 0x0304, Share: hello.Share{Group: 0x1d, Key: public[:]}, Psk: -1}
}

// retry is one that is all right for a peer without a share.
func retry() hello.Server {
	return hello.Server{Suite: 0x1303, Version: 0x0304, Share: hello.Share{Group: 0x1d}, Retry: true, Psk: -1}
}

// said is a plain record of a ServerHello.
func said(t *testing.T, s hello.Server) []byte {
	t.Helper()
	b, e := hello.PutServer(s)
	if e != api.OK {
		t.Fatalf("%v can't be put: %d", s, e)
	}
	return plain(22, laid(2, b))
}

// TestWhatCantBeRead: P17.3; bytes that are no records, in all phases.
func TestWhatCantBeRead(t *testing.T) {
	f := flightTo(t, plan(true, ""), host())
	for _, p := range []peer.Peer{f.p, f.keyed(t, 2), open(t).p} {
		for _, b := range [][]byte{{0}, {19}, {24, 3, 3, 0, 0}, {255}, {22, 2}, {23, 4, 3, 0, 0}, {20, 3, 3, 1, 1}, {21, 3, 3, 255, 255}, {22, 3, 3, 1, 1}, {23, 3, 3, 1, 18}} {
			closes(t, "no record", p, b, 50)
		}
	}
}

// TestGreetedCloses: P17.3; by each alert, ahead of the ServerHello.
func TestGreetedCloses(t *testing.T) {
	p := greeting(plan(true, ""))
	if x, b, e := peer.Take(p, said(t, answer())); e != api.OK || x.Phase != peer.Keyed || len(b) > 0 {
		t.Fatalf("what is right: %d, alert %d", e, x.Alert)
	}
	body := said(t, answer())[9:]
	for _, x := range []struct {
		what  string
		b     []byte
		alert int
	}{
		{"Change", plain(20, []byte{1}), 10},
		{"Data", plain(23, []byte("text")), 10},
		{"no byte", plain(22, nil), 10},
		{"a byte behind", plain(22, append(laid(2, body), 0)), 10},
		{"an alert of a byte", plain(21, []byte{2}), 50},
		{"an alert of three bytes", plain(21, []byte{2, 40, 0}), 50},
		{"an alert of no byte", plain(21, nil), 50},
		{"an alert in a message", joined(plain(22, []byte{2, 0}), plain(21, []byte{2, 40})), 10},
		{"an alert of a byte in a message", joined(plain(22, []byte{2, 0}), plain(21, []byte{2})), 50},
		{"Data in a message", joined(plain(22, []byte{2, 0}), plain(23, []byte{2, 40})), 10},
		{"a great count", plain(22, []byte{2, 0, 8, 1}), 50},
		{"a cut ServerHello", plain(22, laid(2, body[:len(body)-1])), 50},
		{"an empty ServerHello", plain(22, laid(2, nil)), 50},
		{"a longer ServerHello", plain(22, laid(2, append(bytes.Clone(body), 0))), 50},
	} {
		closes(t, x.what, p, x.b, x.alert)
	}
	for kind := range 256 {
		if kind != 2 {
			closes(t, "message "+strconv.Itoa(kind), p, plain(22, laid(kind, body)), 10)
		}
	}
}

// TestOtherAnswers: P17.3; 47, if it isn't what was asked for.
func TestOtherAnswers(t *testing.T) {
	for _, x := range []struct {
		what   string
		ticket string
		bend   func(s *hello.Server)
		alert  int
	}{
		{"the same", "", func(s *hello.Server) {}, -1},
		{"a ticket that isn't taken", "ticket", func(s *hello.Server) {}, -1},
		{"a ticket that is taken", "ticket", func(s *hello.Server) { s.Psk = 0 }, -1},
		{"another suite", "", func(s *hello.Server) { s.Suite = 0x1301 }, 47},
		{"another version", "", func(s *hello.Server) { s.Version = 0x0303 }, 47},
		{"another group", "", func(s *hello.Server) { s.Share.Group = 0x17 }, 47},
		{"no share", "", func(s *hello.Server) { s.Share = hello.Share{} }, 47},
		{"31 bytes", "", func(s *hello.Server) { s.Share.Key = s.Share.Key[:31] }, 47},
		{"33 bytes", "", func(s *hello.Server) { s.Share.Key = append(s.Share.Key, 0) }, 47},
		{"noughts", "", func(s *hello.Server) { s.Share.Key = make([]byte, 32) }, 47},
		{"a session", "", func(s *hello.Server) { s.Session = []byte{1} }, 47},
		{"a ticket that wasn't offered", "", func(s *hello.Server) { s.Psk = 0 }, 47},
		{"a ticket that is too long", string(make([]byte, 256)), func(s *hello.Server) { s.Psk = 0 }, 47},
		{"another ticket", "ticket", func(s *hello.Server) { s.Psk = 1 }, 47},
		{"ticket 65535", "ticket", func(s *hello.Server) { s.Psk = 65535 }, 47},
	} {
		s := answer()
		x.bend(&s)
		p := greeting(plan(true, x.ticket))
		if x.alert >= 0 {
			closes(t, x.what, p, said(t, s), x.alert)
			continue
		}
		if y, b, e := peer.Take(p, said(t, s)); e != api.OK || y.Phase != peer.Keyed || len(b) > 0 || y.Resumed != (s.Psk == 0) {
			t.Errorf("%s: %d, alert %d", x.what, e, y.Alert)
		}
	}
}

// TestRetries: P17.3; once, not behind a share, and of our group.
func TestRetries(t *testing.T) {
	closes(t, "a retry of a share", greeting(plan(true, "")), said(t, retry()), 10)
	once, _ := takes(t, greeting(plan(false, "")), said(t, retry()))
	closes(t, "a second retry", once, said(t, retry()), 10)
	if x, _, e := peer.Take(once, said(t, answer())); e != api.OK || x.Phase != peer.Keyed || !x.Retried {
		t.Errorf("behind a retry: %d, alert %d", e, x.Alert)
	}
	for _, x := range []struct {
		what string
		bend func(s *hello.Server)
	}{
		{"the other group", func(s *hello.Server) { s.Share.Group = 0x17 }},
		{"a cookie alone", func(s *hello.Server) { s.Share.Group, s.Cookie = 0, []byte{1} }},
		{"another suite", func(s *hello.Server) { s.Suite = 0x1302 }},
		{"another version", func(s *hello.Server) { s.Version = 0x0305 }},
	} {
		s := retry()
		x.bend(&s)
		closes(t, "a retry of "+x.what, greeting(plan(false, "")), said(t, s), 47)
	}
	closes(t, "a byte behind a retry", greeting(plan(false, "")), plain(22, append(said(t, retry())[5:], 0)), 10)
}

// inner is a sealed record, whose text ends as it is given: with its type, or without one.
func inner(secret [32]byte, seq int, text []byte) []byte {
	k := record.Derive(secret)
	head := []byte{23, 3, 3, 0, byte(len(text) + 16)}
	return append(head, aead.Seal(k.Key, record.Nonce(k, uint64(seq)), text, head)...)
}

// TestSealedCloses: P17.3; records that don't open, or may not come, in Keyed and Open.
func TestSealedCloses(t *testing.T) {
	f := flightTo(t, plan(true, ""), host())
	for _, p := range []peer.Peer{f.keyed(t, 0), f.keyed(t, 3), open(t).p} {
		good := sealed(p.In, p.InSeq, 22, laid(8, []byte{0, 0}))
		for _, x := range []struct {
			what  string
			b     []byte
			alert int
		}{
			{"a plain message", plain(22, laid(8, []byte{0, 0})), 10},
			{"a plain alert", plain(21, []byte{2, 40}), 10},
			{"a plain Change", plain(20, []byte{1}), 10},
			{"a sealed Change", sealed(p.In, p.InSeq, 20, []byte{1}), 10},
			{"no byte of a message", sealed(p.In, p.InSeq, 22, nil), 10},
			{"an alert of a byte", sealed(p.In, p.InSeq, 21, []byte{2}), 50},
			{"an alert of three bytes", sealed(p.In, p.InSeq, 21, []byte{1, 0, 0}), 50},
			{"a great count", sealed(p.In, p.InSeq, 22, []byte{8, 0, 8, 1}), 50},
			{"an alert in a message", joined(sealed(p.In, p.InSeq, 22, []byte{8}), sealed(p.In, p.InSeq+1, 21, []byte{2, 40})), 10},
			{"Data in a message", joined(sealed(p.In, p.InSeq, 22, []byte{24}), sealed(p.In, p.InSeq+1, 23, []byte("text"))), 10},
			{"another number", sealed(p.In, p.InSeq+1, 22, laid(8, []byte{0, 0})), 20},
			{"another key", sealed(p.Out, p.InSeq, 22, laid(8, []byte{0, 0})), 20},
			{"a short record", plain(23, make([]byte, 15)), 20},
			{"no bytes", plain(23, nil), 20},
			{"a cut record", append([]byte{23, 3, 3, 0, good[4] - 1}, good[5:len(good)-1]...), 20},
			{"no type", inner(p.In, p.InSeq, make([]byte, 9)), 50},
			{"another type", inner(p.In, p.InSeq, []byte{1, 2, 24}), 50},
		} {
			closes(t, "phase "+strconv.Itoa(p.Phase)+", "+x.what, p, x.b, x.alert)
		}
		for i := 5; i < len(good); i++ {
			bent := bytes.Clone(good)
			bent[i] ^= 8
			closes(t, "a bent record", p, bent, 20)
		}
		p.InSeq = 64
		closes(t, "number 64", p, sealed(p.In, 64, 21, []byte{2, 40}), 20)
		closes(t, "number 64, plain", p, plain(21, []byte{2, 40}), 10)
	}
	closes(t, "Data in Keyed", f.keyed(t, 0), sealed(f.keyed(t, 0).In, 0, 23, []byte("text")), 10)
}

// TestKeyedCloses: P17.3; each message of the handshake that is another one than must come, or isn't right.
func TestKeyedCloses(t *testing.T) {
	f, r := flightTo(t, plan(true, ""), host()), flightTo(t, plan(false, "ticket"), host())
	bent := func(b []byte, i int) []byte {
		b = bytes.Clone(b)
		b[len(b)-i] ^= 16
		return b
	}
	sig := f.messages[2][8:]
	scheme, _ := message.PutVerify(0x0403, sig)
	short, _ := message.PutVerify(0xfe01, sig[:31])
	long, _ := message.PutVerify(0xfe01, append(bytes.Clone(sig), 0))
	for _, x := range []struct {
		what  string
		from  flight
		n     int
		b     []byte
		alert int
	}{
		{"Encrypted of nothing", f, 0, laid(8, nil), 50},
		{"Encrypted of a byte", f, 0, laid(8, []byte{0}), 50},
		{"Encrypted of bytes that lack", f, 0, laid(8, []byte{0, 1}), 50},
		{"Encrypted of a byte more", f, 0, laid(8, []byte{0, 0, 0}), 50},
		{"Encrypted of a count of 256", f, 0, laid(8, []byte{1, 0}), 50},
		{"Encrypted of one thing", f, 0, laid(8, []byte{0, 1, 0}), 47},
		{"Encrypted of something", f, 0, laid(8, []byte{0, 4, 0, 99, 0, 0}), 47},
		{"a chain of nothing", f, 1, laid(11, nil), 50},
		{"an empty chain", f, 1, laid(11, []byte{0, 0, 0, 0}), 50},
		{"a cut chain", f, 1, laid(11, f.messages[1][4:len(f.messages[1])-1]), 50},
		{"Verify of nothing", f, 2, laid(15, nil), 50},
		{"a cut Verify", f, 2, laid(15, f.messages[2][4:39]), 50},
		{"another scheme", f, 2, laid(15, scheme), 51},
		{"a short signature", f, 2, laid(15, short), 51},
		{"a long signature", f, 2, laid(15, long), 51},
		{"a bent signature", f, 2, bent(f.messages[2], 1), 51},
		{"a signature bent ahead", f, 2, bent(f.messages[2], 32), 51},
		{"a bent Finished", f, 3, bent(f.messages[3], 1), 51},
		{"a Finished bent ahead", f, 3, bent(f.messages[3], 32), 51},
		{"Finished of nothing", f, 3, laid(20, nil), 51},
		{"a short Finished", f, 3, laid(20, f.messages[3][4:35]), 51},
		{"a byte behind Finished", f, 3, append(bytes.Clone(f.messages[3]), 0), 10},
		{"a bent Finished, and a byte", f, 3, append(bent(f.messages[3], 1), 0), 10},
		{"no Encrypted", f, 0, f.messages[1], 10},
		{"no chain", f, 1, f.messages[2], 10},
		{"no chain, but Finished", f, 1, f.finished(f.keyed(t, 1)), 10},
		{"no Verify", f, 2, f.finished(f.keyed(t, 2)), 10},
		{"a chain twice", f, 2, f.messages[1], 10},
		{"a second ServerHello", f, 0, f.hello, 10},
		{"a chain in a resumed one", r, 1, f.messages[1], 10},
		{"no Encrypted in a resumed one", r, 0, r.messages[1], 10},
		{"a bent Finished of a resumed one", r, 1, bent(r.messages[1], 1), 51},
		{"an update", f, 3, laid(24, []byte{0}), 10},
		{"a ticket", f, 0, laid(4, []byte{0}), 10},
		{"an other message behind Encrypted", f, 0, append(bytes.Clone(f.messages[0]), laid(15, nil)...), 10},
	} {
		closes(t, x.what, x.from.keyed(t, x.n), sealed(x.from.out, x.n, 22, x.b), x.alert)
	}
}

// TestLongEncrypted: P17.3; its count has two bytes.
func TestLongEncrypted(t *testing.T) {
	f := flightTo(t, plan(true, ""), host())
	b := laid(8, append([]byte{1, 0}, make([]byte, 256)...))
	closes(t, "256 bytes of Encrypted", f.keyed(t, 0), joined(sealed(f.out, 0, 22, b[:200]), sealed(f.out, 1, 22, b[200:])), 47)
}

// TestOtherHosts: P17.3; one that has another key, or doesn't know the ticket's secret.
func TestOtherHosts(t *testing.T) {
	h := host()
	h.Key[31] ^= 1
	f := flightTo(t, plan(true, ""), h)
	closes(t, "another key", f.p, joined(plain(22, f.hello), sealed(f.out, 0, 22, joined(f.messages...))), 51)
	f = flightTo(t, plan(true, "ticket"), host())
	f.p.Plan.Psk[0] ^= 1
	closes(t, "another secret", f.p, joined(plain(22, f.hello), sealed(f.out, 0, 22, joined(f.messages...))), 20)
}

// TestOpenCloses: P17.3; what may not come behind the handshake.
func TestOpenCloses(t *testing.T) {
	p := open(t).p
	p, _ = takes(t, p, sealed(p.In, 0, 23, []byte("heard")))
	ticket, _ := message.PutNew(message.New{Ticket: []byte{1}})
	for _, x := range []struct {
		what  string
		b     []byte
		alert int
	}{
		{"a ticket of nothing", laid(4, nil), 50},
		{"a cut ticket", laid(4, ticket[:len(ticket)-1]), 50},
		{"a longer ticket", laid(4, append(bytes.Clone(ticket), 0)), 50},
		{"a byte behind a ticket", append(laid(4, ticket), 0), 10},
		{"an update of nothing", laid(24, nil), 50},
		{"an update of two bytes", laid(24, []byte{0, 0}), 50},
		{"an update of 2", laid(24, []byte{2}), 50},
		{"a byte behind an update", append(laid(24, []byte{0}), 0), 10},
		{"two updates", append(laid(24, []byte{0}), laid(24, []byte{0})...), 10},
	} {
		closes(t, x.what, p, sealed(p.In, 1, 22, x.b), x.alert)
	}
	for kind := range 256 {
		if kind != 4 && kind != 24 {
			closes(t, "message "+strconv.Itoa(kind), p, sealed(p.In, 1, 22, laid(kind, []byte{0, 0})), 10)
		}
	}
	p.OutSeq = 64
	closes(t, "numbers are used up", p, sealed(p.In, 1, 22, laid(24, []byte{1})), 20)
}

// TestAlertsThatCome: P17.3; they close by their number, without an error, and nothing is sent for them.
func TestAlertsThatCome(t *testing.T) {
	f := flightTo(t, plan(true, ""), host())
	for _, p := range []peer.Peer{f.p, f.keyed(t, 0), f.keyed(t, 3), open(t).p} {
		for n := range 256 {
			text := []byte{byte(n % 3), byte(n)}
			want, b := p, plain(21, text)
			if p.Phase != peer.Greeted {
				b = sealed(p.In, p.InSeq, 21, text)
				want.InSeq++
			}
			want.Phase, want.Alert = peer.Closed, n
			x, out, e := peer.Take(p, b)
			is(t, "an alert", x, out, e, want, nil, 0)
			y, out, e := peer.Take(p, append(b, 23, 3, 3, 0, 1, 9, 99))
			is(t, "an alert, and more", y, out, e, want, nil, 0)
		}
	}
}

// TestAServersAlerts: P17.3; those that a server of this suite sends.
func TestAServersAlerts(t *testing.T) {
	p, b := peer.Hello(plan(true, "ticket"), random(1))
	h := host()
	h.Tickets[1].Psk[0] ^= 1
	_, out, _ := hear(t, server.New(), h, b)
	if x, b, e := peer.Take(p, out); x.Phase != peer.Closed || x.Alert != 51 || len(b) > 0 || e != api.OK {
		t.Errorf("phase %d, alert %d, error %d", x.Phase, x.Alert, e)
	}
	y := open(t)
	_, d, _ := server.Close(y.s, free())
	if x, b, e := peer.Take(y.p, d.Send); x.Phase != peer.Closed || x.Alert != 0 || len(b) > 0 || e != api.OK {
		t.Errorf("phase %d, alert %d, error %d", x.Phase, x.Alert, e)
	}
}

// TestEnded: P17.3; in Begin and Closed nothing is taken.
func TestEnded(t *testing.T) {
	closed, _, _ := peer.Close(open(t).p)
	for _, p := range []peer.Peer{{}, {Plan: plan(true, "ticket"), Alert: -1}, closed} {
		for _, b := range [][]byte{nil, {99}, said(t, answer())} {
			x, out, e := peer.Take(p, b)
			is(t, "ended", x, out, e, peer.Peer{}, nil, api.ErrEnd)
		}
	}
}

// TestWhatStandsAheadOfTheEnd: P17.2 and P17.3; it is done, but with an error nothing is sent; what stands behind isn't taken.
func TestWhatStandsAheadOfTheEnd(t *testing.T) {
	p := open(t).p
	next := record.Next(p.In)
	ahead := joined(sealed(p.In, 0, 23, []byte("ahead ")), sealed(p.In, 1, 22, laid(24, []byte{1})), sealed(next, 0, 23, []byte("of it")))
	behind := sealed(next, 2, 23, []byte("behind"))
	want, sent := takes(t, p, ahead)
	if string(want.Data) != "ahead of it" || !bytes.Equal(sent, sealed(p.Out, 0, 22, laid(24, []byte{0}))) {
		t.Fatalf("%q, %x", want.Data, sent)
	}
	want.Phase = peer.Closed
	want.InSeq, want.Alert = 2, 9
	x, b, e := peer.Take(p, joined(ahead, sealed(next, 1, 21, []byte{2, 9}), behind))
	is(t, "an alert", x, b, e, want, sent, 0)
	x, b, e = peer.Take(p, joined(ahead, sealed(next, 1, 22, nil), behind))
	want.Alert = 10
	is(t, "a fault", x, b, e, want, nil, api.ErrAlert)
}
