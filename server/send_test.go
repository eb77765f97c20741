package server_test

import (
	"bytes"
	"math"
	"testing"

	"relay/api"
	"relay/message"
	"relay/probe"
	"relay/record"
	"relay/schedule"
	"relay/server"
)

// line is how records are sealed one behind the other, by the chapter's words.
type line struct {
	s   server.State
	did server.Did
}

// put seals a record; isOwn: it is a key update or an alert.
func (l *line) put(kind int, text []byte, isOwn bool) {
	if l.s.OutEpoch >= 2 && l.s.OutSeq >= 62 && !isOwn {
		l.turn(false)
	}
	l.did.Send = append(l.did.Send, sealed(l.s.Out, l.s.OutSeq, kind, text)...)
	l.did.Seals = append(l.did.Seals, server.Sealed{Secret: l.s.Out, Epoch: l.s.OutEpoch, Seq: l.s.OutSeq})
	l.s.OutSeq++
}

func (l *line) turn(ask bool) {
	text := []byte{24, 0, 0, 1, 0}
	if ask {
		text[4] = 1
	}
	l.put(record.Handshake, text, true)
	l.s.Out, l.s.OutSeq, l.s.OutEpoch = record.Next(l.s.Out), 0, l.s.OutEpoch+1
}

func (l *line) text(kind int, text []byte) {
	for len(text) > 0 {
		n := min(len(text), 256)
		l.put(kind, text[:n], false)
		text = text[n:]
	}
}

// isLine holds what was answered against a line.
func isLine(t *testing.T, what string, s server.State, d server.Did, e api.Errno, l line) {
	t.Helper()
	is(t, what, s, d, e, l.s, l.did, 0)
}

// at is a connection that is open, of which the next number of an epoch is that.
func at(t *testing.T, epoch, seq int) server.State {
	s := opened(t, host(), 1)
	s.OutEpoch, s.OutSeq = epoch, seq
	return s
}

// TestWrite: P16.1; texts of all lengths, and keys that run out.
func TestWrite(t *testing.T) {
	for _, seq := range []int{0, 1, 30, 59, 60, 61, 62, 63} {
		for _, epoch := range []int{2, 3, 40} {
			for _, n := range []int{0, 1, 255, 256, 257, 512, 513, 1500, 40000} {
				s, text := at(t, epoch, seq), probe.Bytes(n, seq)
				l := line{s: s}
				l.text(record.Data, text)
				x, d, e := server.Write(s, free(50), text)
				isLine(t, "a text", x, d, e, l)
				var heard []byte
				for _, c := range contents(t, d) {
					if c.kind == record.Data {
						heard = append(heard, c.text...)
					}
				}
				if !bytes.Equal(heard, text) {
					t.Errorf("%d of %d bytes are heard", len(heard), n)
				}
			}
		}
	}
	s := at(t, 2, 61)
	x, d, _ := server.Write(s, free(50), make([]byte, 300))
	if all := contents(t, d); len(all) != 3 || all[1].kind != record.Handshake || !bytes.Equal(all[1].text, []byte{24, 0, 0, 1, 0}) || x.OutEpoch != 3 || x.OutSeq != 1 {
		t.Errorf("%v, number %d of %d", all, x.OutSeq, x.OutEpoch)
	}
}

// TestFirstEpochsDontTurn: P16.1; only from epoch 2 on a key update is sent by itself.
func TestFirstEpochsDontTurn(t *testing.T) {
	for _, epoch := range []int{0, 1} {
		s := at(t, epoch, 62)
		x, d, e := server.Write(s, free(9), []byte("x"))
		l := line{s: s}
		l.put(record.Data, []byte("x"), true)
		isLine(t, "an early epoch", x, d, e, l)
	}
}

// TestUpdate: P16.1; also by the last numbers.
func TestUpdate(t *testing.T) {
	for _, seq := range []int{0, 7, 61, 62, 63} {
		for _, ask := range []bool{true, false} {
			s := at(t, 2, seq)
			l := line{s: s}
			l.turn(ask)
			x, d, e := server.Update(s, free(9), ask)
			isLine(t, "an update", x, d, e, l)
			if all := contents(t, d); len(all) != 1 || all[0].kind != record.Handshake || x.OutEpoch != 3 || x.OutSeq != 0 || x.InEpoch != s.InEpoch {
				t.Errorf("%v", all)
			}
		}
	}
}

// TestGive: P16.1; the ticket's message, and its secret; a long one goes in two records.
func TestGive(t *testing.T) {
	for _, seq := range []int{0, 5, 60, 62, 63} {
		for _, n := range []int{1, 20, 231, 232, 255} {
			s, nonce, ticket := at(t, 2, seq), probe.Bytes(seq%9, seq), probe.Bytes(n, n)
			body, _ := message.PutNew(message.New{Life: 600, Add: 1 << 31, Nonce: nonce, Ticket: ticket})
			l := line{s: s}
			l.text(record.Handshake, laid(4, body))
			x, d, secret, e := server.Give(s, free(9), 600, 1<<31, nonce, ticket)
			isLine(t, "a ticket", x, d, e, l)
			if secret != schedule.Resume(s.Secrets.Master, s.Sum, nonce) {
				t.Errorf("its secret: %x", secret)
			}
		}
	}
}

// TestGiveTurnsBetweenItsRecords: P16.1; by the chapter's words a key update comes ahead of each record by number 62.
func TestGiveTurnsBetweenItsRecords(t *testing.T) {
	_, d, _, _ := server.Give(at(t, 2, 61), free(9), 0, 0, nil, make([]byte, 255))
	if len(d.Seals) != 3 || d.Seals[1].Seq != 62 || d.Seals[1].Epoch != 2 || d.Seals[2].Seq != 0 || d.Seals[2].Epoch != 3 {
		t.Errorf("%v", d.Seals)
	}
}

// TestGiveRefuses: P16.1; PutNew's ErrArg, behind ErrState.
func TestGiveRefuses(t *testing.T) {
	for _, x := range []struct {
		life, add     int
		nonce, ticket int
	}{{-1, 0, 0, 1}, {1 << 32, 0, 0, 1}, {0, -1, 0, 1}, {0, 1 << 32, 0, 1}, {0, 0, 9, 1}, {0, 0, 0, 0}, {0, 0, 0, 256}, {math.MinInt, math.MaxInt, 1000, 1000}} {
		for _, until := range [][]int{free(9), nil} {
			s := opened(t, host(), 1)
			next, d, secret, e := server.Give(s, until, x.life, x.add, make([]byte, x.nonce), make([]byte, x.ticket))
			is(t, "no ticket", next, d, e, s, server.Did{}, api.ErrArg)
			if secret != [32]byte{} {
				t.Errorf("%x", secret)
			}
			s = waiting(t, host(), 1)
			next, d, _, e = server.Give(s, until, x.life, x.add, make([]byte, x.nonce), make([]byte, x.ticket))
			is(t, "no ticket, not now", next, d, e, s, server.Did{}, api.ErrState)
		}
	}
}

// TestNotOpen: P16.1.
func TestNotOpen(t *testing.T) {
	for _, s := range standing(t) {
		closed, _, _ := server.Close(s.State, free(9))
		all := []server.State{closed}
		if s.Phase != server.Open {
			all = append(all, s.State)
		}
		for _, s := range all {
			for _, until := range [][]int{free(9), nil} {
				x, d, e := server.Write(s, until, []byte("x"))
				is(t, "Write", x, d, e, s, server.Did{}, api.ErrState)
				x, d, e = server.Write(s, until, nil)
				is(t, "Write of nothing", x, d, e, s, server.Did{}, api.ErrState)
				x, d, e = server.Update(s, until, true)
				is(t, "Update", x, d, e, s, server.Did{}, api.ErrState)
				x, d, secret, e := server.Give(s, until, 1, 1, nil, []byte{1})
				is(t, "Give", x, d, e, s, server.Did{}, api.ErrState)
				if secret != [32]byte{} {
					t.Errorf("%x", secret)
				}
			}
		}
	}
}

// TestCloseAndFail: P16.1; in all phases, and a second time.
func TestCloseAndFail(t *testing.T) {
	for _, s := range standing(t) {
		x, d, e := server.Close(s.State, free(9))
		alerts(t, s.what+", Close", s.State, x, d, e, 0)
		want := s.State
		want.Phase, want.Alert = server.Closed, 0
		if s.OutEpoch > 0 {
			want.OutSeq++
		}
		if !sameState(x, want) {
			t.Errorf("%s: %v, not %v", s.what, x, want)
		}
		for n := range 256 {
			x, d, e := server.Fail(s.State, free(9), n)
			alerts(t, s.what+", Fail", s.State, x, d, e, n)
		}
		for _, n := range []int{-1, 256, 257, 512 + 40, math.MinInt, math.MaxInt} {
			y, d, e := server.Fail(s.State, free(9), n)
			is(t, s.what+", no alert", y, d, e, s.State, server.Did{}, api.ErrArg)
			y, d, e = server.Fail(x, free(9), n)
			is(t, s.what+", no alert, closed", y, d, e, x, server.Did{}, api.ErrEnd)
		}
		y, d, e := server.Close(x, free(9))
		is(t, s.what+", closed twice", y, d, e, x, server.Did{}, api.ErrEnd)
		y, d, e = server.Fail(x, free(9), 10)
		is(t, s.what+", closed twice", y, d, e, x, server.Did{}, api.ErrEnd)
	}
}

// TestAlertsHaveTheLastNumbers: P16.1; no key update comes ahead of an alert.
func TestAlertsHaveTheLastNumbers(t *testing.T) {
	for _, seq := range []int{61, 62, 63} {
		s := at(t, 2, seq)
		x, d, e := server.Fail(s, free(9), 80)
		alerts(t, "a last number", s, x, d, e, 80)
	}
}

// TestNumber64: P16.1 and P16.2; it is never used: the State is as it was, but closed.
func TestNumber64(t *testing.T) {
	for _, until := range [][]int{free(9), nil, {0, 1000, 1000}} {
		for _, epoch := range []int{1, 2, 5} {
			s := at(t, epoch, 64)
			want := s
			want.Phase = server.Closed
			ends := func(what string, x server.State, d server.Did, e api.Errno) {
				t.Helper()
				is(t, what, x, d, e, want, server.Did{}, api.ErrEnd)
			}
			x, d, e := server.Write(s, until, []byte("x"))
			ends("Write", x, d, e)
			x, d, e = server.Update(s, until, false)
			ends("Update", x, d, e)
			x, d, e = server.Close(s, until)
			ends("Close", x, d, e)
			x, d, e = server.Fail(s, until, 22)
			ends("Fail", x, d, e)
			x, d, secret, e := server.Give(s, until, 1, 1, nil, []byte{1})
			ends("Give", x, d, e)
			if secret != [32]byte{} {
				t.Errorf("%x", secret)
			}
			x, d, e = server.Take(s, host(), until, record.Data, []byte("x"), random(1))
			ends("Take of a fault", x, d, e)
			x, d, e = server.Take(s, host(), until, record.Data, body(sealed(s.In, s.InSeq, 22, laid(24, []byte{1}))), random(1))
			ends("Take of an update", x, d, e)
			x, d, e = server.Take(s, host(), until, record.Data, body(sealed(s.In, s.InSeq, 21, []byte{1, 0})), random(1))
			ends("Take of an alert", x, d, e)
			x, d, e = server.Write(s, until, nil)
			is(t, "Write of nothing", x, d, e, s, server.Did{}, 0)
		}
	}
}
