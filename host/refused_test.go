package host_test

import (
	"math"
	"slices"
	"testing"

	"relay/api"
	"relay/disk"
	"relay/host"
	"relay/journal"
	"relay/peer"
	"relay/server"
)

// steps is each call of a connection that may have an error.
func steps(h *host.Host, conn int) map[string]func() (host.Out, api.Errno) {
	return map[string]func() (host.Out, api.Errno){
		"Take":    func() (host.Out, api.Errno) { return h.Take(conn, []byte{22}, random(1)) },
		"no byte": func() (host.Out, api.Errno) { return h.Take(conn, nil, random(1)) },
		"Write":   func() (host.Out, api.Errno) { return h.Write(conn, []byte("hi")) },
		"Update":  func() (host.Out, api.Errno) { return h.Update(conn, true) },
		"Give":    func() (host.Out, api.Errno) { return h.Give(conn) },
		"Close":   func() (host.Out, api.Errno) { return h.Close(conn) },
		"Freeze":  func() (host.Out, api.Errno) { return host.Out{}, h.Freeze(conn) },
	}
}

// allRefused: each call tells an error, and nothing else.
func allRefused(t *testing.T, h *host.Host, conn int, want api.Errno) {
	t.Helper()
	for what, step := range steps(h, conn) {
		if o, e := step(); e != want || len(o.Send)+len(o.Data) > 0 {
			t.Errorf("%s of %d: %v, %d, not %d", what, conn, o, e, want)
		}
	}
	if s, lives := h.State(conn); lives || !same(s, server.State{}) {
		t.Errorf("%d lives: %v", conn, s)
	}
}

// TestNilHost: P21.1; and one that was never begun.
func TestNilHost(t *testing.T) {
	for _, h := range []*host.Host{nil, {}} {
		allRefused(t, h, 1, api.ErrArg)
		allRefused(t, h, -1, api.ErrArg)
		if e := h.Accept(1); e != api.ErrArg {
			t.Errorf("Accept: %d", e)
		}
		if h.On() || len(h.Conns())+len(h.Seals()) > 0 {
			t.Errorf("%v %v %v", h.On(), h.Conns(), h.Seals())
		}
	}
}

// TestBeginRefused: P21.1; journal's errors, in their order; Recover's, too.
func TestBeginRefused(t *testing.T) {
	without := func(sectors int) *disk.Disk {
		d := made(t, sectors)
		d.Fail(0, 0)
		d.Write(0, make([]byte, 64))
		return d
	}
	for _, c := range []struct {
		what           string
		d              *disk.Disk
		begin, recover api.Errno
	}{
		{"nil", nil, api.ErrArg, api.ErrArg}, {"too small", made(t, 3), api.ErrArg, api.ErrArg},
		{"no power", without(9), api.ErrStop, api.ErrStop}, {"too small, no power", without(3), api.ErrStop, api.ErrStop},
		{"no journal", made(t, 4), api.OK, api.ErrForm},
	} {
		if h, list, e := host.Recover(c.d, key, chain); h != nil || len(list) > 0 || e != c.recover {
			t.Errorf("%s: Recover %v %v %d", c.what, h, list, e)
		}
		if h, e := host.Begin(c.d, key, chain); h.On() != (c.begin == api.OK) || e != c.begin || (h == nil) == h.On() {
			t.Errorf("%s: Begin %v %d", c.what, h, e)
		}
	}
	d := made(t, 9)
	d.Fail(1, 64)
	if h, e := host.Begin(d, key, chain); h != nil || e != api.ErrStop {
		t.Errorf("power goes: %v %d", h, e)
	}
}

// TestAcceptRefused: P21.1; in the order of the table.
func TestAcceptRefused(t *testing.T) {
	h, d := begun(t, 40)
	refuse := func(conn int, want api.Errno) {
		t.Helper()
		list, conns := written(t, d), h.Conns()
		if e := h.Accept(conn); e != want || !slices.Equal(h.Conns(), conns) {
			t.Errorf("Accept of %d: %d, not %d, and %v live", conn, e, want, h.Conns())
		}
		hold(t, "Accept", written(t, d), list...)
	}
	for _, conn := range []int{-1, 65536, math.MinInt, math.MaxInt, 1 << 16, 1 << 32} {
		refuse(conn, api.ErrArg)
	}
	for i, conn := range []int{5, 0, 65535, 9} {
		ok(t, "Accept", h.Accept(conn))
		refuse(conn, api.ErrKnown)
		if len(h.Conns()) != i+1 {
			t.Errorf("%v live", h.Conns())
		}
	}
	refuse(6, api.ErrFull)
	refuse(9, api.ErrKnown)
	refuse(-1, api.ErrArg)
	refuse(65536, api.ErrArg)
	sent(t, "Close")(h.Close(9))
	refuse(9, api.ErrKnown)
	ok(t, "Accept", h.Accept(6))
	refuse(9, api.ErrKnown)
	refuse(7, api.ErrFull)
	h = recovered(t, d, aborted(0), aborted(5), aborted(6), aborted(65535))
	for _, conn := range []int{0, 5, 6, 9, 65535} {
		refuse(conn, api.ErrKnown)
	}
	ok(t, "Accept", h.Accept(7))
	h, e := host.Begin(d, key, chain)
	ok(t, "Begin", e)
	ok(t, "Accept", h.Accept(9))
}

// TestNone: P21.1; of connections that never lived, and of those that don't any more.
func TestNone(t *testing.T) {
	h, _ := begun(t, 100)
	ok(t, "Accept", h.Accept(1))
	ok(t, "Accept", h.Accept(2))
	sent(t, "Close")(h.Close(2))
	for _, conn := range []int{-1, 0, 2, 3, 65536, 65537, math.MaxInt} {
		allRefused(t, h, conn, api.ErrNone)
	}
	if !slices.Equal(h.Conns(), []int{1}) {
		t.Errorf("%v live", h.Conns())
	}
}

// TestNotOpen: P21.1; ErrState is server's, and nothing is written.
func TestNotOpen(t *testing.T) {
	h, d := begun(t, 300)
	l, b := greeted(t, h, 1, peer.Plan{Key: key})
	phases := []int{server.Start, server.Retried, server.Wait}
	for _, phase := range phases {
		s, list, seals := state(t, h, 1), written(t, d), len(h.Seals())
		if s.Phase != phase {
			t.Fatalf("phase %d, not %d", s.Phase, phase)
		}
		all := steps(h, 1)
		for _, what := range []string{"Write", "Update", "Give"} {
			if o, e := all[what](); e != api.ErrState || len(o.Send)+len(o.Data) > 0 {
				t.Errorf("%s in phase %d: %v, %d", what, phase, o, e)
			}
		}
		if !same(state(t, h, 1), s) || len(h.Seals()) != seals {
			t.Errorf("phase %d: it is another one", phase)
		}
		hold(t, "ErrState", written(t, d), list...)
		b = l.hear(t, sent(t, "Take")(h.Take(1, b, random(4))))
	}
	sent(t, "Write")(h.Write(1, []byte("hi")))
}

// TestStop: P21.1; power goes in each kind of write: nothing is told, and the Host ends; its seals stay.
func TestStop(t *testing.T) {
	for _, what := range []string{"Accept", "Write", "Update", "Give", "Close", "Freeze", "Take"} {
		for writes := range 16 {
			h, d := begun(t, 300)
			opened(t, h, 1, plan())
			seals := len(h.Seals())
			before := written(t, d)
			d.Fail(writes, 9)
			all := steps(h, 1)
			all["Accept"] = func() (host.Out, api.Errno) { return host.Out{}, h.Accept(2) }
			all["Take"] = func() (host.Out, api.Errno) { return h.Take(1, []byte{23, 4}, random(1)) }
			o, e := all[what]()
			if e == api.OK {
				if writes == 0 {
					t.Errorf("%s: nothing is written", what)
				}
				break
			}
			if e != api.ErrStop || len(o.Send)+len(o.Data) > 0 || h.On() || len(h.Conns()) > 0 || len(h.Seals()) < seals {
				t.Errorf("%s: %v, %d, %v", what, o, e, h.Conns())
			}
			allRefused(t, h, 1, api.ErrStop)
			allRefused(t, h, 9, api.ErrStop)
			for _, conn := range []int{-1, 1, 2} {
				if e := h.Accept(conn); e != api.ErrStop {
					t.Errorf("%s: Accept %d", what, e)
				}
			}
			d.Up()
			allRefused(t, h, 1, api.ErrStop)
			if _, err := journal.Open(d); err != api.OK {
				t.Errorf("%s: %d", what, err)
			}
			list := written(t, d)
			hold(t, what, list[:min(len(before), len(list))], before...)
			if len(list) > len(before)+writes {
				t.Errorf("%s: %d entries", what, len(list))
			}
		}
	}
}
