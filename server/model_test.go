package server_test

import (
	"bytes"
	"reflect"
	"slices"
	"testing"

	"relay/api"
	"relay/curve"
	"relay/hello"
	"relay/message"
	"relay/probe"
	"relay/record"
	"relay/schedule"
	"relay/server"
	"relay/sha"
	"relay/stream"
)

// joined is all, side by side.
func joined(all ...[]byte) []byte { return slices.Concat(all...) }

// free has all numbers of the first n epochs reserved.
func free(n int) []int { return slices.Repeat([]int{64}, n) }

// laid is a message's bytes.
func laid(kind int, body []byte) []byte {
	return append([]byte{byte(kind), byte(len(body) >> 16), byte(len(body) >> 8), byte(len(body))}, body...)
}

// random is 64 bytes, others for each seed.
func random(seed int) [64]byte { return [64]byte(probe.Bytes(64, seed)) }

// host has one certificate, and no tickets.
func host() server.Host { return server.Host{Key: probe.Array(5), Chain: [][]byte{{1}}} }

// client is how somebody begins by hand: a greeting, the secret of its share, and that of the ticket that it offers.
type client struct {
	hello.Client
	secret [32]byte
	psk    [32]byte
	isBent bool // its binders are wrong
}

// newClient has all that a full handshake needs.
func newClient(seed int) client {
	c := client{secret: probe.Array(seed + 1)}
	public := curve.Public(c.secret)
	c.Client = hello.Client{
		Random: probe.Array(seed), Session: probe.Bytes(seed%33, seed), Suites: []int{0x1301, 0x1303}, Versions: []int{0x0304},
		Groups: []int{0x17, 0x1d}, Schemes: []int{0x0403, 0xfe01}, Modes: []byte{1},
		Shares: []hello.Share{{Group: 0x1d, Key: public[:]}},
	}
	return c
}

// offer has a client offer tickets; its binders are those of psk.
func (c client) offer(psk [32]byte, tickets ...[]byte) client {
	c.psk, c.Ids, c.Binders = psk, nil, nil
	for i, ticket := range tickets {
		c.Ids = append(c.Ids, hello.Id{Ticket: ticket, Age: i * 1000})
		c.Binders = append(c.Binders, make([]byte, 32))
	}
	return c
}

// greeting is the ClientHello behind a log, as a message.
func (c client) greeting(t *testing.T, log []byte) []byte {
	t.Helper()
	b, e := hello.PutClient(c.Client)
	if e != api.OK {
		t.Fatalf("a greeting can't be put: %d", e)
	}
	if n := len(c.Ids); n > 0 {
		ahead := len(b) - 2 - 33*n
		binder := schedule.Binder(c.psk[:], sha.Sum(joined(log, laid(1, b)[:4+ahead])))
		if c.isBent {
			binder[31] ^= 1
		}
		for i := range n {
			copy(b[ahead+2+33*i+1:], binder[:])
		}
	}
	return laid(1, b)
}

// answered is the State and the Did that a greeting calls for, by the chapter's words; place: that of the ticket that is taken.
func answered(t *testing.T, h server.Host, log, greeting []byte, c client, by [64]byte, place int) (server.State, server.Did) {
	t.Helper()
	s := server.State{Phase: server.Wait, InEpoch: 1, OutEpoch: 2, Sealed: true, Alert: -1}
	public := curve.Public([32]byte(by[32:]))
	body, _ := hello.PutServer(hello.Server{
		Random: [32]byte(by[:32]), Session: c.Session, Suite: 0x1303, Version: 0x0304,
		Share: hello.Share{Group: 0x1d, Key: public[:]}, Psk: place,
	})
	answer := laid(2, body)
	s.Log = joined(log, greeting, answer)
	shared, _ := curve.Shared(c.secret, public)
	begin := schedule.Start(nil)
	if place >= 0 {
		begin = schedule.Start(c.psk[:])
		s.Used = c.Ids[place].Ticket
	}
	s.Secrets = schedule.Finish(schedule.Mix(begin, shared))
	hand := schedule.Traffic(s.Secrets.Hand, "s hs traffic", sha.Sum(s.Log))
	s.In = schedule.Traffic(s.Secrets.Hand, "c hs traffic", sha.Sum(s.Log))
	from := len(s.Log)
	s.Log = joined(s.Log, laid(8, []byte{0, 0}))
	if place < 0 {
		chain, _ := message.PutChain(h.Chain)
		s.Log = joined(s.Log, laid(11, chain))
		sig := schedule.Sign(h.Key, sha.Sum(s.Log))
		s.Log = joined(s.Log, laid(15, joined(probe.Hex("fe010020"), sig)))
	}
	verify := schedule.Verify(hand, sha.Sum(s.Log))
	s.Log = joined(s.Log, laid(20, verify[:]))
	s.Later = schedule.Traffic(s.Secrets.Master, "c ap traffic", sha.Sum(s.Log))
	s.Out = schedule.Traffic(s.Secrets.Master, "s ap traffic", sha.Sum(s.Log))
	did := server.Did{Send: plain(22, answer), Used: s.Used}
	for i, part := range record.Parts(s.Log[from:]) {
		did.Send = append(did.Send, sealed(hand, i, 22, part)...)
		did.Seals = append(did.Seals, server.Sealed{Secret: hand, Epoch: 1, Seq: i})
	}
	return s, did
}

// plain and sealed are records; body is one's body.
func plain(kind int, text []byte) []byte {
	return joined([]byte{byte(kind), 3, 3, byte(len(text) >> 8), byte(len(text))}, text)
}

func sealed(secret [32]byte, seq, kind int, text []byte) []byte {
	b, _ := record.Seal(record.Derive(secret), uint64(seq), kind, text, 0)
	return b
}

func body(record []byte) []byte { return record[5:] }

// bare is a list, nil if it is empty: they are one.
func bare(b []byte) []byte {
	if len(b) == 0 {
		return nil
	}
	return b
}

func sameState(a, b server.State) bool {
	for _, s := range []*server.State{&a, &b} {
		s.Log, s.Part, s.Used = bare(s.Log), bare(s.Part), bare(s.Used)
	}
	return reflect.DeepEqual(a, b)
}

func sameDid(a, b server.Did) bool {
	for _, d := range []*server.Did{&a, &b} {
		d.Send, d.Data, d.Used = bare(d.Send), bare(d.Data), bare(d.Used)
		if len(d.Seals) == 0 {
			d.Seals = nil
		}
	}
	return reflect.DeepEqual(a, b)
}

// is holds what was answered against what must be.
func is(t *testing.T, what string, s server.State, d server.Did, e api.Errno, wantState server.State, wantDid server.Did, want api.Errno) {
	t.Helper()
	if e != want {
		t.Errorf("%s: error %d, not %d", what, e, want)
	}
	if !sameState(s, wantState) {
		t.Errorf("%s: the State is\n%v, not\n%v", what, s, wantState)
	}
	if !sameDid(d, wantDid) {
		t.Errorf("%s: what was done is\n%v, not\n%v", what, d, wantDid)
	}
}

// alerts: a step ended s by that alert.
func alerts(t *testing.T, what string, s server.State, x server.State, d server.Did, e api.Errno, alert int) {
	t.Helper()
	text := []byte{2, byte(alert)}
	if alert == 0 {
		text[0] = 1
	}
	want := server.Did{Send: plain(21, text)}
	if s.OutEpoch > 0 {
		want = server.Did{Send: sealed(s.Out, s.OutSeq, 21, text), Seals: []server.Sealed{{Secret: s.Out, Epoch: s.OutEpoch, Seq: s.OutSeq}}}
		s.OutSeq++
	}
	if e != api.OK || x.Phase != server.Closed || x.Alert != alert || x.OutSeq != s.OutSeq || x.OutEpoch != s.OutEpoch || x.Out != s.Out {
		t.Errorf("%s: error %d, phase %d, alert %d, not %d, number %d of %d", what, e, x.Phase, x.Alert, alert, x.OutSeq, x.OutEpoch)
	}
	if !sameDid(d, want) {
		t.Errorf("%s: what was done is\n%v, not\n%v", what, d, want)
	}
}

// take is a record that comes, of which all numbers may be used; random bytes are those of 1.
func take(s server.State, h server.Host, kind int, b []byte) (server.State, server.Did, api.Errno) {
	return server.Take(s, h, free(100), kind, b, random(1))
}

// comes has a text come, in parts of n bytes, each sealed if that must be, and tells what came of the last part.
func comes(t *testing.T, s server.State, h server.Host, kind int, text []byte, n int) (server.State, server.Did) {
	t.Helper()
	var d server.Did
	for part := range slices.Chunk(text, n) {
		as, b := kind, part
		if s.Sealed {
			as, b = record.Data, body(sealed(s.In, s.InSeq, kind, part))
		}
		x, did, e := take(s, h, as, b)
		if e != api.OK {
			t.Fatalf("a record of type %d in phase %d: %d", kind, s.Phase, e)
		}
		s, d = x, did
	}
	return s, d
}

// finished is the client's Finished that s waits for, as a message.
func finished(s server.State) []byte {
	b := schedule.Verify(s.In, sha.Sum(s.Log))
	return laid(20, b[:])
}

// waiting, opened and retried are connections of a client's, in those phases.
func waiting(t *testing.T, h server.Host, seed int) server.State {
	t.Helper()
	s, _ := comes(t, server.New(), h, 22, newClient(seed).greeting(t, nil), 256)
	return s
}

func opened(t *testing.T, h server.Host, seed int) server.State {
	t.Helper()
	s := waiting(t, h, seed)
	s, _ = comes(t, s, h, 22, finished(s), 256)
	if s.Phase != server.Open {
		t.Fatalf("phase %d", s.Phase)
	}
	return s
}

func retried(t *testing.T, h server.Host, seed int) server.State {
	t.Helper()
	c := newClient(seed)
	c.Shares = []hello.Share{{Group: 0x17, Key: []byte{4}}}
	s, _ := comes(t, server.New(), h, 22, c.greeting(t, nil), 256)
	if s.Phase != server.Retried {
		t.Fatalf("phase %d", s.Phase)
	}
	return s
}

// begun has a message open, of which a byte came.
func begun(t *testing.T, s server.State) server.State {
	t.Helper()
	s, _ = comes(t, s, host(), 22, []byte{24}, 256)
	if !bytes.Equal(s.Part, []byte{24}) {
		t.Fatalf("the part is %x", s.Part)
	}
	return s
}

// content is one record's, opened.
type content struct {
	kind int
	text []byte
}

// contents opens all that was sent, by what it was sealed by.
func contents(t *testing.T, d server.Did) []content {
	t.Helper()
	var out []content
	r, seals := stream.New(d.Send), d.Seals
	for {
		kind, b, ok, e := r.Take()
		if e != api.OK {
			t.Fatalf("what was sent can't be read: %d", e)
		}
		if !ok {
			break
		}
		if kind == record.Data {
			if len(seals) == 0 {
				t.Fatal("a record of which no seal is told")
			}
			var e api.Errno
			kind, b, e = record.Open(record.Derive(seals[0].Secret), uint64(seals[0].Seq), b)
			if e != api.OK {
				t.Fatalf("what was sealed by %v doesn't open: %d", seals[0], e)
			}
			seals = seals[1:]
		}
		out = append(out, content{kind, b})
	}
	if len(seals) > 0 || len(r.Left()) > 0 {
		t.Fatalf("%d seals and %d bytes are left", len(seals), len(r.Left()))
	}
	return out
}
