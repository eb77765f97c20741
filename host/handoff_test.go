package host_test

import (
	"bytes"
	"math/rand"
	"slices"
	"testing"

	"relay/api"
	"relay/disk"
	"relay/host"
	"relay/peer"
	"relay/probe"
)

// play is two connections with honest clients; ahead of some steps they go to another process.
type play struct {
	*testing.T
	d       *disk.Disk
	h       *host.Host
	clients map[int]*client
	outs    []host.Out
	seals   []host.Seal
	moves   func(step int) bool
}

// step does something, by the next process, if it is its turn.
func (w *play) step(do func() (host.Out, api.Errno)) []byte {
	w.Helper()
	if w.moves(len(w.outs)) {
		w.move()
	}
	o, e := do()
	ok(w.T, "a step", e)
	w.outs = append(w.outs, o)
	return o.Send
}

// move freezes all connections, and goes on by another process.
func (w *play) move() {
	w.Helper()
	var found []host.Found
	for _, conn := range w.h.Conns() {
		ok(w.T, "Freeze", w.h.Freeze(conn))
		found = append(found, resumed(conn))
	}
	w.seals = append(w.seals, w.h.Seals()...)
	w.h = recovered(w.T, w.d, found...)
}

// come brings all that a client sent, in pieces of so many bytes.
func (w *play) come(conn, size int) {
	w.Helper()
	c := w.clients[conn]
	for len(c.way) > 0 {
		n := min(size, len(c.way))
		b := c.way[:n]
		c.way = c.way[n:]
		seed := len(w.outs) // what is random hangs on the step alone
		w.hear(conn, w.step(func() (host.Out, api.Errno) {
			o, e := w.h.Take(conn, b, random(seed))
			c.got = append(c.got, o.Data...)
			return o, e
		}))
	}
}

func (w *play) hear(conn int, b []byte) {
	w.Helper()
	c := w.clients[conn]
	l := link{p: c.p}
	c.way = append(c.way, l.hear(w.T, b)...)
	c.p = l.p
}

// begin is a connection's handshake.
func (w *play) begin(conn, size int, p peer.Plan) {
	w.Helper()
	c := &client{}
	c.p, c.way = peer.Hello(p, random(conn+500))
	w.clients[conn] = c
	w.step(func() (host.Out, api.Errno) { return host.Out{}, w.h.Accept(conn) })
	w.come(conn, size)
	if c.p.Phase != peer.Open {
		w.Fatalf("%d: phase %d", conn, c.p.Phase)
	}
}

// talk is what both sides of a connection say, with key updates and tickets.
func (w *play) talk(conn, size int) {
	w.Helper()
	c := w.clients[conn]
	for i, n := range []int{0, 1, 300, 256, 3000} {
		text := probe.Bytes(n, i)
		w.hear(conn, w.step(func() (host.Out, api.Errno) { return w.h.Write(conn, text) }))
		c.wrote = append(c.wrote, text...)
		w.hear(conn, w.step(func() (host.Out, api.Errno) { return w.h.Update(conn, i%2 == 0) }))
		w.hear(conn, w.step(func() (host.Out, api.Errno) { return w.h.Give(conn) }))
		p, b, e := peer.Write(c.p, text)
		ok(w.T, "Write", e)
		p, more, e := peer.Update(p, i%2 == 1)
		ok(w.T, "Update", e)
		c.p, c.way, c.said = p, joined(c.way, b, more), append(c.said, text...)
		w.come(conn, size)
	}
	if !bytes.Equal(c.got, c.said) || !bytes.Equal(c.p.Data, c.wrote) {
		w.Errorf("%d: %d bytes of %d are delivered, and %d of %d", conn, len(c.got), len(c.said), len(c.p.Data), len(c.wrote))
	}
}

// played is all of it.
func played(t *testing.T, size int, moves func(step int) bool) *play {
	t.Helper()
	h, d := begun(t, 512)
	w := &play{T: t, d: d, h: h, clients: map[int]*client{}, moves: moves}
	w.begin(1, size, peer.Plan{Key: key})
	w.talk(1, size)
	n := w.clients[1].p.Tickets[2]
	w.begin(2, size, peer.Plan{Key: key, Ticket: n.Ticket, Psk: n.Psk})
	w.talk(2, size)
	for conn := 1; conn <= 2; conn++ {
		c := w.clients[conn]
		p, b, e := peer.Close(c.p)
		ok(t, "Close", e)
		c.p, c.way = p, append(c.way, b...)
		if conn == 1 {
			w.step(func() (host.Out, api.Errno) { return w.h.Close(conn) })
			continue
		}
		w.step(func() (host.Out, api.Errno) { return w.h.Take(conn, c.way, random(1)) })
	}
	w.seals = append(w.seals, w.h.Seals()...)
	once(t, "all Hosts", w.seals)
	if len(w.h.Conns()) > 0 || !w.clients[2].p.Resumed || w.clients[1].p.Resumed {
		t.Errorf("%v live", w.h.Conns())
	}
	return w
}

// TestHandoffs: P21.3; ahead of one step, whichever it is, of all, and of some: the same is sent and delivered; nothing is sealed twice.
func TestHandoffs(t *testing.T) {
	r := rand.New(rand.NewSource(1))
	for _, size := range []int{1 << 20, 200} {
		want := played(t, size, func(int) bool { return false })
		n := len(want.outs)
		all := []func(step int) bool{func(int) bool { return true }, func(step int) bool { return step%3 == 0 }, func(int) bool { return r.Intn(4) == 0 }}
		for k := range n {
			all = append(all, func(step int) bool { return step == k })
		}
		for i, moves := range all {
			got := played(t, size, moves)
			if !slices.EqualFunc(got.outs, want.outs, func(a, b host.Out) bool { return bytes.Equal(a.Send, b.Send) && bytes.Equal(a.Data, b.Data) }) {
				t.Errorf("handoffs %d: something else is sent or delivered", i)
			}
		}
		if n < 30 {
			t.Errorf("%d steps", n)
		}
	}
}

// TestHandoffOfEachByte: P21.3; a handshake that comes byte by byte, each by another process.
func TestHandoffOfEachByte(t *testing.T) {
	var all [][]byte
	for _, isMoved := range []bool{false, true} {
		h, d := begun(t, 512)
		w := &play{T: t, d: d, h: h, clients: map[int]*client{}, moves: func(int) bool { return isMoved }}
		w.begin(3, 1, plan())
		w.talk(3, 100)
		var out []byte
		for _, o := range w.outs {
			out = append(out, joined(o.Send, []byte{255}, o.Data, []byte{254})...)
		}
		all = append(all, out)
		once(t, "all Hosts", w.seals)
	}
	if !bytes.Equal(all[0], all[1]) {
		t.Error("something else is sent or delivered")
	}
}
