package server_test

import (
	"bytes"
	"strconv"
	"testing"

	"relay/aead"
	"relay/api"
	"relay/hello"
	"relay/probe"
	"relay/record"
	"relay/schedule"
	"relay/server"
	"relay/sha"
)

// named is a State with a name.
type named struct {
	what string
	server.State
}

// standing is connections in all phases in which a record is taken, also with a message's part that is open.
func standing(t *testing.T) []named {
	t.Helper()
	bare := []named{
		{"Start", server.New()}, {"Retried", retried(t, host(), 1)},
		{"Wait", waiting(t, host(), 1)}, {"Open", opened(t, host(), 1)},
	}
	all := bare
	for _, x := range bare {
		all = append(all, named{x.what + " with a part", begun(t, x.State)})
	}
	return all
}

// bring is a record of that type and text, sealed if that must be.
func bring(s server.State, kind int, text []byte) (server.State, server.Did, api.Errno) {
	if s.Sealed {
		return take(s, host(), record.Data, body(sealed(s.In, s.InSeq, kind, text)))
	}
	return take(s, host(), kind, text)
}

// TestChange: P16.1; it isn't sealed, and isn't a fault while the handshake isn't done.
func TestChange(t *testing.T) {
	for _, s := range standing(t) {
		x, d, e := take(s.State, host(), record.Change, []byte{1})
		if s.Phase == server.Open {
			alerts(t, s.what, s.State, x, d, e, 10)
		} else {
			is(t, s.what, x, d, e, s.State, server.Did{}, 0)
		}
		for _, b := range [][]byte{nil, {0}, {2}, {1, 1}, {1, 0}, {0, 1}} {
			x, d, e := take(s.State, host(), record.Change, b)
			alerts(t, s.what+", another Change", s.State, x, d, e, 10)
		}
		if s.Sealed {
			x, d, e := bring(s.State, record.Change, []byte{1})
			alerts(t, s.what+", a sealed Change", s.State, x, d, e, 10)
		}
	}
}

// TestPlainRecordsThatMustBeSealed: P16.1; whatever is in them, and of types that are none.
func TestPlainRecordsThatMustBeSealed(t *testing.T) {
	for _, s := range standing(t) {
		if !s.Sealed {
			continue
		}
		for _, kind := range []int{-1, 0, 19, record.Alert, record.Handshake, 24, 255, 256 + 23} {
			for _, b := range [][]byte{nil, {2, 40}, {1, 0}, finished(s.State), body(sealed(s.In, s.InSeq, 22, finished(s.State)))} {
				x, d, e := take(s.State, host(), kind, b)
				alerts(t, s.what+", a plain record of type "+strconv.Itoa(kind), s.State, x, d, e, 10)
			}
		}
	}
}

// TestDataThatIsntSealed: P16.1; also types that are none.
func TestDataThatIsntSealed(t *testing.T) {
	for _, s := range standing(t) {
		if s.Sealed {
			continue
		}
		for _, kind := range []int{record.Data, -1, 0, 19, 24, 255, 256 + 22} {
			for _, b := range [][]byte{nil, []byte("hello"), newClient(1).greeting(t, nil)} {
				x, d, e := take(s.State, host(), kind, b)
				alerts(t, s.what+", type "+strconv.Itoa(kind), s.State, x, d, e, 10)
			}
		}
	}
}

// inner is a sealed record's body, whose text ends as it is given: with its type, or without one.
func inner(s server.State, text []byte) []byte {
	k := record.Derive(s.In)
	head := []byte{23, 3, 3, 0, byte(len(text) + 16)}
	return aead.Seal(k.Key, record.Nonce(k, uint64(s.InSeq)), text, head)
}

// TestRecordsThatDontOpen: P16.1.
func TestRecordsThatDontOpen(t *testing.T) {
	for _, s := range standing(t) {
		if !s.Sealed {
			continue
		}
		good := body(sealed(s.In, s.InSeq, record.Handshake, finished(s.State)))
		wrong := [][]byte{nil, {1}, make([]byte, 15), make([]byte, 16), make([]byte, 273), make([]byte, 274), make([]byte, 5000),
			good[1:], good[:len(good)-1], append(bytes.Clone(good), 0),
			body(sealed(s.In, s.InSeq+1, record.Handshake, finished(s.State))),
			body(sealed(s.Out, s.InSeq, record.Handshake, finished(s.State))),
			body(sealed(s.Later, s.InSeq+9, record.Handshake, finished(s.State)))}
		for i := range good {
			bent := bytes.Clone(good)
			bent[i] ^= 32
			wrong = append(wrong, bent)
		}
		for _, b := range wrong {
			x, d, e := take(s.State, host(), record.Data, b)
			alerts(t, s.what+", what doesn't open", s.State, x, d, e, 20)
			if x.InSeq != s.InSeq {
				t.Errorf("%s: the number is %d", s.what, x.InSeq)
			}
		}
		for _, text := range [][]byte{nil, {0}, make([]byte, 200), {5, 19}, {24, 0}, {255}, {1, 20}} {
			x, d, e := take(s.State, host(), record.Data, inner(s.State, text))
			alerts(t, s.what+", no type of its own", s.State, x, d, e, 10)
		}
	}
}

// TestNumbersThatCome: P16.1; up to number 63, and no further.
func TestNumbersThatCome(t *testing.T) {
	s := opened(t, host(), 1)
	for i := range 64 {
		if s.InSeq != i {
			t.Fatalf("number %d is %d", i, s.InSeq)
		}
		want := s
		want.InSeq++
		x, d, e := bring(s, record.Data, probe.Bytes(i*4, i))
		is(t, "data", x, d, e, want, server.Did{Data: probe.Bytes(i*4, i)}, 0)
		s = x
	}
	for _, b := range [][]byte{body(sealed(s.In, 64, 23, []byte("x"))), body(sealed(s.In, 0, 23, []byte("x"))), nil} {
		x, d, e := take(s, host(), record.Data, b)
		alerts(t, "number 64", s, x, d, e, 10)
	}
}

// TestAlertsThatCome: P16.1.
func TestAlertsThatCome(t *testing.T) {
	for _, s := range standing(t) {
		for _, b := range [][]byte{nil, {2}, {0}, {2, 40, 0}, {1, 0, 0}, make([]byte, 200)} {
			x, d, e := bring(s.State, record.Alert, b)
			alerts(t, s.what+", not two bytes", s.State, x, d, e, 50)
		}
		for _, level := range []byte{0, 1, 2, 255} {
			for n := range 256 {
				x, d, e := bring(s.State, record.Alert, []byte{level, byte(n)})
				switch {
				case len(s.Part) > 0:
					alerts(t, s.what+", an alert", s.State, x, d, e, 10)
				case n == 0:
					alerts(t, s.what+", alert 0", s.State, x, d, e, 0)
				default:
					want := s.State
					want.Phase, want.Alert = server.Closed, n
					if s.Sealed {
						want.InSeq++
					}
					is(t, s.what+", an alert", x, d, e, want, server.Did{}, 0)
				}
			}
		}
	}
}

// TestDataThatComes: P16.1.
func TestDataThatComes(t *testing.T) {
	for _, s := range standing(t) {
		if !s.Sealed {
			continue
		}
		for _, n := range []int{0, 1, 255, 256} {
			x, d, e := bring(s.State, record.Data, probe.Bytes(n, n))
			if s.Phase != server.Open || len(s.Part) > 0 {
				alerts(t, s.what+", data", s.State, x, d, e, 10)
				continue
			}
			want := s.State
			want.InSeq++
			is(t, s.what+", data", x, d, e, want, server.Did{Data: probe.Bytes(n, n)}, 0)
		}
	}
}

// TestEmptyHandshake: P16.1.
func TestEmptyHandshake(t *testing.T) {
	for _, s := range standing(t) {
		x, d, e := bring(s.State, record.Handshake, nil)
		alerts(t, s.what+", no byte", s.State, x, d, e, 10)
	}
}

// TestParts: P16.1; bytes come to Part till all of a message is there; one that can't be ends it as soon as its count is there.
func TestParts(t *testing.T) {
	for _, s := range standing(t) {
		if len(s.Part) > 0 {
			continue
		}
		at, all := s.State, laid(77, make([]byte, 2048))
		for n := 0; n < len(all)-1; n += 100 {
			part := all[n:min(n+100, len(all)-1)]
			want := at
			want.Part = all[:n+len(part)]
			if s.Sealed {
				want.InSeq++
			}
			x, d, e := bring(at, record.Handshake, part)
			is(t, s.what+", a part", x, d, e, want, server.Did{}, 0)
			at = x
		}
		x, d, e := bring(at, record.Handshake, []byte{0})
		alerts(t, s.what+", another message", at, x, d, e, 10)
		for _, head := range [][]byte{{1, 0, 8, 1}, {20, 0, 9, 0}, {24, 1, 0, 0}, {77, 255, 255, 255, 1, 2, 3}} {
			x, d, e := bring(s.State, record.Handshake, head)
			alerts(t, s.what+", a great count", s.State, x, d, e, 50)
		}
	}
}

// TestFinished: P16.1; in one record, and in pieces.
func TestFinished(t *testing.T) {
	for seed := range 10 {
		s := waiting(t, host(), seed)
		message := finished(s)
		for _, n := range []int{256, 5, 1} {
			want := s
			want.Phase, want.In, want.InSeq, want.InEpoch = server.Open, s.Later, 0, 2
			want.Log = joined(s.Log, message)
			want.Sum = sha.Sum(want.Log)
			x, d := comes(t, s, host(), record.Handshake, message, n)
			is(t, "Finished", x, d, 0, want, server.Did{}, 0)
		}
		for i := range 32 {
			bent := bytes.Clone(message)
			bent[4+i] ^= 1 << (i % 8)
			x, d, e := bring(s, record.Handshake, bent)
			alerts(t, "a bent Finished", s, x, d, e, 51)
		}
		for _, body := range [][]byte{nil, message[4:35], append(bytes.Clone(message[4:]), 0), make([]byte, 32)} {
			x, d, e := bring(s, record.Handshake, laid(20, body))
			alerts(t, "another Finished", s, x, d, e, 51)
		}
		x, d, e := bring(s, record.Handshake, append(bytes.Clone(message), 20))
		alerts(t, "a byte behind Finished", s, x, d, e, 10)
	}
}

// TestOtherMessages: P16.1, in Wait and Open.
func TestOtherMessages(t *testing.T) {
	wait, open := waiting(t, host(), 1), opened(t, host(), 1)
	for kind := range 256 {
		if kind != 20 {
			x, d, e := bring(wait, record.Handshake, laid(kind, finished(wait)[4:]))
			alerts(t, "another message in Wait", wait, x, d, e, 10)
		}
		if kind != 24 {
			x, d, e := bring(open, record.Handshake, laid(kind, []byte{0}))
			alerts(t, "another message in Open", open, x, d, e, 10)
		}
	}
}

// TestUpdatesThatCome: P16.1; keys of what comes are others, and if it was asked for, those of what is sent.
func TestUpdatesThatCome(t *testing.T) {
	s := opened(t, host(), 1)
	for i := range 20 {
		ask := i%3 == 1
		want, did := s, server.Did{}
		want.In, want.InSeq, want.InEpoch = record.Next(s.In), 0, s.InEpoch+1
		text := laid(24, []byte{0})
		if ask {
			did.Send = sealed(s.Out, s.OutSeq, 22, text)
			did.Seals = []server.Sealed{{Secret: s.Out, Epoch: s.OutEpoch, Seq: s.OutSeq}}
			want.Out, want.OutSeq, want.OutEpoch = record.Next(s.Out), 0, s.OutEpoch+1
			text = laid(24, []byte{1})
		}
		x, d := comes(t, s, host(), record.Handshake, text, 1+i)
		is(t, "an update", x, d, 0, want, did, 0)
		s = x
		if i%4 == 0 {
			s, _, _ = server.Write(s, free(50), []byte("between"))
		}
	}
	if s.InEpoch != 22 || s.OutEpoch != 9 {
		t.Errorf("epochs %d and %d", s.InEpoch, s.OutEpoch)
	}
	for _, x := range []struct {
		body []byte
		want int
	}{{nil, 50}, {[]byte{0, 0}, 50}, {[]byte{1, 0}, 50}, {[]byte{2}, 47}, {[]byte{255}, 47}, {[]byte{2, 0}, 47}} {
		next, d, e := bring(s, record.Handshake, laid(24, x.body))
		alerts(t, "an update that can't be", s, next, d, e, x.want)
	}
	next, d, e := bring(s, record.Handshake, append(laid(24, []byte{1}), 0))
	alerts(t, "a byte behind an update", s, next, d, e, 10)
}

// TestWholeConnection: P16.1 and P5; both directions, with keys that are turned.
func TestWholeConnection(t *testing.T) {
	s := opened(t, host(), 3)
	secrets := s.Secrets
	if s.Later != schedule.Traffic(secrets.Master, "c ap traffic", sha.Sum(s.Log[:len(s.Log)-36])) || s.In != s.Later {
		t.Error("other keys")
	}
	for i := range 30 {
		text := probe.Bytes(i*20, i)
		x, d, e := server.Write(s, free(9), text)
		if e != api.OK {
			t.Fatal(e)
		}
		var heard []byte
		for _, c := range contents(t, d) {
			if c.kind != record.Data {
				t.Errorf("type %d", c.kind)
			}
			heard = append(heard, c.text...)
		}
		if !bytes.Equal(heard, text) {
			t.Errorf("%d bytes are heard, not %d", len(heard), len(text))
		}
		s = x
		if i%10 == 9 {
			s, _, _ = server.Update(s, free(9), false)
		}
	}
	x, d, e := bring(s, record.Alert, []byte{1, 0})
	alerts(t, "its end", s, x, d, e, 0)
}

// TestClosed: P16.1; nothing is taken any more.
func TestClosed(t *testing.T) {
	for _, s := range standing(t) {
		closed, _, _ := server.Close(s.State, free(9))
		for _, kind := range []int{20, 21, 22, 23, 99} {
			for _, b := range [][]byte{nil, {1}, {2, 40}, newClient(1).greeting(t, nil), body(sealed(s.In, s.InSeq, 23, []byte("x")))} {
				x, d, e := server.Take(closed, host(), free(9), kind, b, random(1))
				is(t, s.what+", closed", x, d, e, closed, server.Did{}, api.ErrEnd)
			}
		}
	}
}

// TestUnknownTicketsGoOn: P5; a client whose ticket isn't known comes to be as if it had none.
func TestUnknownTicketsGoOn(t *testing.T) {
	c := newClient(2).offer(probe.Array(1), []byte("old"))
	c.Ids = []hello.Id{{Ticket: []byte("old")}}
	s, _ := comes(t, server.New(), host(), 22, c.greeting(t, nil), 256)
	s, _ = comes(t, s, host(), 22, finished(s), 256)
	if s.Phase != server.Open || len(s.Used) != 0 {
		t.Errorf("phase %d, alert %d, by %q", s.Phase, s.Alert, s.Used)
	}
}
