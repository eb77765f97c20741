package server_test

import (
	"math"
	"testing"

	"relay/api"
	"relay/probe"
	"relay/record"
	"relay/server"
)

// call is a call of a State, by what was reserved.
type call struct {
	what string
	s    server.State
	do   func(until []int) (server.State, server.Did, api.Errno)
}

// calls are calls that seal something, or not.
func calls(t *testing.T) []call {
	t.Helper()
	var out []call
	add := func(what string, s server.State, do func(s server.State, until []int) (server.State, server.Did, api.Errno)) {
		out = append(out, call{what, s, func(until []int) (server.State, server.Did, api.Errno) { return do(s, until) }})
	}
	come := func(what string, s server.State, kind int, b []byte) {
		add(what, s, func(s server.State, until []int) (server.State, server.Did, api.Errno) {
			return server.Take(s, host(), until, kind, b, random(1))
		})
	}
	come("a greeting", server.New(), 22, newClient(1).greeting(t, nil))
	wait := waiting(t, host(), 1)
	come("Finished", wait, 23, body(sealed(wait.In, 0, 22, finished(wait))))
	come("a fault in Wait", wait, 23, nil)
	for _, seq := range []int{0, 1, 7, 8, 9, 55, 60, 61, 62, 63} {
		open := at(t, 2, seq)
		come("an update", open, 23, body(sealed(open.In, open.InSeq, 22, laid(24, []byte{1}))))
		come("data", open, 23, body(sealed(open.In, open.InSeq, 23, []byte("x"))))
		come("an alert", open, 23, body(sealed(open.In, open.InSeq, 21, []byte{1, 0})))
		come("a fault", open, 22, []byte("x"))
		for _, n := range []int{0, 1, 5000, 50000} {
			add("Write", open, func(s server.State, until []int) (server.State, server.Did, api.Errno) {
				return server.Write(s, until, probe.Bytes(n, n))
			})
		}
		add("Update", open, func(s server.State, until []int) (server.State, server.Did, api.Errno) {
			return server.Update(s, until, true)
		})
		add("Give", open, func(s server.State, until []int) (server.State, server.Did, api.Errno) {
			x, d, secret, e := server.Give(s, until, 600, 0, []byte{1}, make([]byte, 255))
			if e != api.OK && secret != [32]byte{} {
				t.Errorf("a secret beside an error: %x", secret)
			}
			return x, d, e
		})
		add("Close", open, server.Close)
		add("Fail", open, func(s server.State, until []int) (server.State, server.Did, api.Errno) {
			return server.Fail(s, until, 10)
		})
	}
	return out
}

// below: are all numbers below what was reserved? Of an epoch without a place that is 0.
func below(d server.Did, until []int) bool {
	for _, seal := range d.Seals {
		most := 0
		if seal.Epoch >= 0 && seal.Epoch < len(until) {
			most = min(max(until[seal.Epoch], 0), 64)
		}
		if seal.Seq >= most {
			return false
		}
	}
	return true
}

// TestGate: P16.1, P16.2 and P16.3; what isn't reserved is asked for, block by block, and nothing is done by then.
func TestGate(t *testing.T) {
	for _, c := range calls(t) {
		wantState, wantDid, want := c.do(free(20))
		if want != api.OK {
			t.Fatalf("%s: %d", c.what, want)
		}
		var until []int
		var last server.Did
		for steps := 0; ; steps++ {
			s, d, e := c.do(until)
			if e == api.OK {
				is(t, c.what+", then", s, d, e, wantState, wantDid, 0)
				if !below(d, until) {
					t.Errorf("%s: a number that wasn't reserved: %v of %v", c.what, d.Seals, until)
				}
				if steps == 0 && len(d.Seals) > 0 {
					t.Errorf("%s: nothing was asked for", c.what)
				}
				break
			}
			is(t, c.what, s, d, e, c.s, server.Did{Epoch: d.Epoch, Until: d.Until}, api.ErrGate)
			if d.Until%8 != 0 || d.Until < 8 || d.Until > 64 || d.Epoch < last.Epoch || d.Epoch == last.Epoch && d.Until <= last.Until && steps > 0 {
				t.Fatalf("%s: number %d of %d is asked for, behind %d of %d", c.what, d.Until, d.Epoch, last.Until, last.Epoch)
			}
			for len(until) <= d.Epoch {
				until = append(until, 0)
			}
			until[d.Epoch], last = d.Until, d
		}
	}
}

// TestWhatIsAskedFor: P16.1; the least multiple of 8 above the number, of the epoch of the record that lacks it.
func TestWhatIsAskedFor(t *testing.T) {
	for seq := range 64 {
		s := at(t, 2, seq)
		for until := -3; until <= seq; until++ {
			x, d, e := server.Update(s, []int{64, 64, until}, true)
			is(t, "not reserved", x, d, e, s, server.Did{Epoch: 2, Until: (seq/8 + 1) * 8}, api.ErrGate)
		}
		if _, _, e := server.Update(s, []int{0, 0, seq + 1}, true); e != api.OK {
			t.Errorf("%d: %d", seq, e)
		}
		for _, until := range [][]int{nil, {}, {64}, {64, 64}, {64, 64, math.MinInt}} {
			x, d, e := server.Close(s, until)
			is(t, "no such place", x, d, e, s, server.Did{Epoch: 2, Until: (seq/8 + 1) * 8}, api.ErrGate)
		}
	}
	last := at(t, 2, 62)
	x, d, e := server.Write(last, []int{0, 0, 62, 64}, []byte("x"))
	is(t, "the key update", x, d, e, last, server.Did{Epoch: 2, Until: 64}, api.ErrGate)
	x, d, e = server.Write(last, []int{0, 0, 63}, []byte("x"))
	is(t, "what stands behind it", x, d, e, last, server.Did{Epoch: 3, Until: 8}, api.ErrGate)
	if _, d, e := server.Write(last, []int{0, 0, 63, 1}, []byte("x")); e != api.OK || len(d.Seals) != 2 {
		t.Errorf("%v %d", d, e)
	}
	below := at(t, -1, 0)
	x, d, e = server.Write(below, free(9), []byte("x"))
	is(t, "an epoch below 0", x, d, e, below, server.Did{Epoch: -1, Until: 8}, api.ErrGate)
}

// TestMoreThanThereAre: P16.1; 1000 reserved numbers are 64.
func TestMoreThanThereAre(t *testing.T) {
	s := at(t, 2, 63)
	if _, d, e := server.Close(s, []int{0, 0, math.MaxInt}); e != api.OK || len(d.Seals) != 1 {
		t.Errorf("%v %d", d, e)
	}
	if _, _, e := server.Close(at(t, 2, 64), []int{0, 0, math.MaxInt}); e != api.ErrEnd {
		t.Errorf("%d", e)
	}
}

// place is a number of an epoch; row is a connection in a long row of calls: what was reserved, and used.
type place struct{ epoch, seq int }

type row struct {
	s     server.State
	until []int
	used  map[place]int
}

// step does one call, picked by a few bytes, with what is reserved; what lacks is reserved only now and then.
func (r *row) step(t *testing.T, pick []byte) {
	s, until := r.s, r.until
	var next server.State
	var d server.Did
	var e api.Errno
	switch pick[0] % 8 {
	case 0, 1, 2:
		next, d, e = server.Write(s, until, probe.Bytes(int(pick[1])*10, 1))
	case 3:
		next, d, e = server.Update(s, until, pick[1]%2 == 0)
	case 4:
		next, d, _, e = server.Give(s, until, 1, 2, nil, probe.Bytes(1+int(pick[1]), 2))
	case 5:
		next, d, e = server.Take(s, host(), until, record.Data, body(sealed(s.In, s.InSeq, 22, laid(24, []byte{pick[1] % 2}))), random(1))
	case 6:
		next, d, e = server.Take(s, host(), until, record.Data, body(sealed(s.In, s.InSeq, 23, pick)), random(1))
	case 7:
		if pick[1] > 0 || pick[2] > 40 {
			return
		}
		next, d, e = server.Close(s, until)
	}
	if e == api.ErrGate {
		if !sameState(next, s) || len(d.Seals) > 0 {
			t.Errorf("something was done: %v", d)
		}
		if pick[2]%4 > 0 {
			for len(r.until) <= d.Epoch {
				r.until = append(r.until, 0)
			}
			r.until[d.Epoch] = d.Until
		}
		return
	}
	for _, seal := range d.Seals {
		r.used[place{seal.Epoch, seal.Seq}]++
	}
	if !below(d, until) {
		t.Errorf("a number that wasn't reserved: %v of %v", d.Seals, until)
	}
	r.s = next
}

// TestNoNumberTwice: P16.3, in long rows of calls.
func TestNoNumberTwice(t *testing.T) {
	for seed := range 30 {
		s, d, e := server.Take(server.New(), host(), []int{0, 64}, 22, newClient(seed).greeting(t, nil), random(seed))
		if e != api.OK {
			t.Fatal(e)
		}
		r := row{s: s, until: []int{0, 64}, used: map[place]int{}}
		for _, seal := range d.Seals {
			r.used[place{seal.Epoch, seal.Seq}]++
		}
		r.s, _ = comes(t, r.s, host(), 22, finished(r.s), 256)
		pick := probe.Bytes(1800, seed)
		for i := 0; i < len(pick); i += 3 {
			r.step(t, pick[i:i+3])
		}
		for p, n := range r.used {
			if n > 1 || p.seq > 63 || p.seq < 0 {
				t.Errorf("seed %d: number %d of %d is used %d times", seed, p.seq, p.epoch, n)
			}
		}
		if len(r.used) < 20 {
			t.Errorf("seed %d: %d numbers are used", seed, len(r.used))
		}
	}
}
