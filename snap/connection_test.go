package snap_test

import (
	"reflect"
	"slices"
	"testing"

	"relay/api"
	"relay/peer"
	"relay/probe"
	"relay/server"
	"relay/snap"
	"relay/stream"
)

// twice is a connection on the server's side, once as it is, and once as it is read again from a version's bytes ahead of each step.
type twice struct {
	version int
	s, read server.State
	phases  []int
}

// step does one thing to both, and tells what is sent.
func (w *twice) step(t *testing.T, do func(s server.State) (server.State, server.Did, api.Errno)) []byte {
	t.Helper()
	b, e := snap.Put(w.read, w.version)
	if e != api.OK {
		t.Fatalf("version %d, Phase %d: %d", w.version, w.read.Phase, e)
	}
	var version int
	w.read, version, e = snap.Get(b)
	if !same(seen(w.s, w.version), w.read) || version != w.version || e != api.OK {
		t.Fatalf("version %d, Phase %d: %v, %d", w.version, w.s.Phase, w.read, e)
	}
	var did, readDid server.Did
	w.s, did, e = do(w.s)
	var readErr api.Errno
	w.read, readDid, readErr = do(w.read)
	if !reflect.DeepEqual(did, readDid) || e != api.OK || readErr != e {
		t.Fatalf("version %d, Phase %d: %v, %d, not %v, %d", w.version, w.s.Phase, readDid, readErr, did, e)
	}
	w.phases = append(w.phases, w.s.Phase)
	return did.Send
}

// come brings bytes to both, record by record.
func (w *twice) come(t *testing.T, h server.Host, b []byte) []byte {
	t.Helper()
	r := stream.New(b)
	var out []byte
	for {
		kind, body, ok, _ := r.Take()
		if !ok {
			return out
		}
		out = append(out, w.step(t, func(s server.State) (server.State, server.Did, api.Errno) {
			return server.Take(s, h, free(), kind, body, [64]byte(probe.Bytes(64, 9)))
		})...)
	}
}

// free is numbers that were reserved of all epochs a test comes to.
func free() []int { return slices.Repeat([]int{api.MaxSeq}, 9) }

// TestConnectionsGoOn: P18.2; with a retry and without one, with a ticket and without one.
func TestConnectionsGoOn(t *testing.T) {
	h := server.Host{Key: probe.Array(5), Chain: [][]byte{probe.Bytes(300, 1)}, Tickets: []server.Known{{Ticket: []byte("ticket"), Psk: probe.Array(3)}}}
	for i, plan := range []peer.Plan{
		{Key: h.Key, Share: true},
		{Key: h.Key},
		{Key: h.Key, Share: true, Ticket: []byte("ticket"), Psk: probe.Array(3)},
		{Key: h.Key, Ticket: []byte("ticket"), Psk: probe.Array(3)},
	} {
		for _, version := range versions {
			w := play(t, h, plan, version, i)
			want := []int{server.Start, server.Wait, server.Open, server.Closed}
			if !plan.Share {
				want = slices.Insert(want, 1, server.Retried)
			}
			if got := slices.Compact(append([]int{server.Start}, w.phases...)); !slices.Equal(got, want) {
				t.Errorf("plan %d, version %d: %v", i, version, got)
			}
		}
	}
}

// play is a whole connection by a plan.
func play(t *testing.T, h server.Host, plan peer.Plan, version, seed int) *twice {
	t.Helper()
	w := &twice{version: version, s: server.New(), read: server.New()}
	p, b := peer.Hello(plan, [64]byte(probe.Bytes(64, seed)))
	take := func(b []byte) []byte {
		next, out, e := peer.Take(p, b)
		if e != api.OK {
			t.Fatalf("plan %d, version %d: the peer tells %d", seed, version, e)
		}
		p = next
		return out
	}
	for range 3 {
		b = take(w.come(t, h, b))
	}
	for i := range 5 {
		text := probe.Bytes(100*i, i)
		p, b, _ = peer.Write(p, text)
		w.come(t, h, b)
		b = w.step(t, func(s server.State) (server.State, server.Did, api.Errno) { return server.Write(s, free(), text) })
		b = append(b, w.step(t, func(s server.State) (server.State, server.Did, api.Errno) { return server.Update(s, free(), i%2 > 0) })...)
		w.come(t, h, take(b))
	}
	if len(p.Data) != 1000 {
		t.Errorf("plan %d, version %d: %d bytes were delivered", seed, version, len(p.Data))
	}
	_, b, _ = peer.Close(p)
	w.come(t, h, b)
	return w
}

// TestPartsGoOn: P18.2; a snapshot in the middle of a greeting that stands in several records.
func TestPartsGoOn(t *testing.T) {
	h := server.Host{Key: probe.Array(5), Chain: [][]byte{{1}}}
	_, b := peer.Hello(peer.Plan{Key: h.Key, Share: true}, [64]byte(probe.Bytes(64, 2)))
	for _, version := range versions {
		w := &twice{version: version, s: server.New(), read: server.New()}
		for i, x := range b[5:] {
			sent := w.step(t, func(s server.State) (server.State, server.Did, api.Errno) {
				return server.Take(s, h, free(), 22, []byte{x}, [64]byte(probe.Bytes(64, 9)))
			})
			if isLast := i == len(b)-6; (len(sent) > 0) != isLast {
				t.Errorf("version %d, byte %d: %d bytes are sent", version, i, len(sent))
			}
		}
	}
}
