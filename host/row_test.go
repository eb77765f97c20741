package host_test

import (
	"bytes"
	"maps"
	"math/rand"
	"slices"
	"strings"
	"testing"

	"relay/api"
	"relay/disk"
	"relay/host"
	"relay/peer"
	"relay/probe"
	"relay/server"
)

// row is a row of calls of Hosts on one disk, held against the model, with honest clients.
type row struct {
	*testing.T
	r       *rand.Rand
	d       *disk.Disk
	h       *host.Host
	m       *model
	clients map[int]*client
	news    []peer.New
	done    []host.Seal    // of Hosts that are gone
	kinds   map[string]int // how often each outcome came
}

// client is an honest one: what it sent that didn't come yet, what both wrote, and what was delivered.
type client struct {
	p                peer.Peer
	way              []byte
	said, got, wrote []byte
}

func newRow(t *testing.T, sectors, seed int) *row {
	t.Helper()
	h, d := begun(t, sectors)
	return &row{
		T: t, r: rand.New(rand.NewSource(int64(seed))), d: d, h: h, m: newModel((sectors - 2) / 2),
		clients: map[int]*client{}, kinds: map[string]int{},
	}
}

// step does one thing with the Host and with the model; power may go.
func (w *row) step(what string, conn int, power bool, h func() (host.Out, api.Errno), m func() (host.Out, api.Errno)) host.Out {
	w.Helper()
	before, sealed := w.m.list, len(w.m.seals)
	w.m.past = nil
	if power {
		w.d.Fail(w.r.Intn(12), w.r.Intn(65))
	}
	o, e := h()
	isGone := e == api.ErrStop
	w.d.Up()
	want, wantErr := m()
	if isGone {
		w.kinds["power"]++
		w.stopped(what, before, sealed)
		return host.Out{}
	}
	w.kinds[what+" "+string(rune('0'+int(e)))]++
	if e != wantErr || !bytes.Equal(o.Send, want.Send) || !bytes.Equal(o.Data, want.Data) {
		w.Fatalf("%s of %d: %d, not %d: %x, not %x", what, conn, e, wantErr, o, want)
	}
	w.held(what)
	return o
}

// held holds all that can be seen against the model.
func (w *row) held(what string) {
	w.Helper()
	hold(w.T, what, written(w.T, w.d), w.m.list...)
	if w.Failed() {
		w.FailNow()
	}
	if !slices.Equal(w.h.Conns(), slices.Sorted(maps.Keys(w.m.conns))) || !slices.Equal(w.h.Seals(), w.m.seals) || !w.h.On() {
		w.Fatalf("%s: %v live, not %v; %d seals, not %d", what, w.h.Conns(), w.m.conns, len(w.h.Seals()), len(w.m.seals))
	}
	for conn, c := range w.m.conns {
		if s, lives := w.h.State(conn); !lives || !same(s, c.s) {
			w.Fatalf("%s: %d stands otherwise", what, conn)
		}
	}
}

// stopped: power went in a step: what stands there is what stood there behind one of its writes; another Host goes on.
func (w *row) stopped(what string, before [][]byte, sealed int) {
	w.Helper()
	list := written(w.T, w.d)
	if !slices.ContainsFunc(append(w.m.past, before), func(x [][]byte) bool { return slices.EqualFunc(x, list, bytes.Equal) }) {
		w.Fatalf("%s: power went, and there is %x", what, list)
	}
	seals := w.h.Seals()
	if n := len(seals); n < sealed || n > len(w.m.seals) || !slices.Equal(seals, w.m.seals[:n]) || w.h.On() || len(w.h.Conns()) > 0 {
		w.Fatalf("%s: power went, and %d seals were done", what, n)
	}
	w.recover(list)
}

// recover goes on by another Host, perhaps not at once.
func (w *row) recover(list [][]byte) {
	w.Helper()
	w.done = append(w.done, w.h.Seals()...)
	once(w.T, "all Hosts", w.done)
	for {
		next, found := w.m.next(list)
		if w.r.Intn(4) == 0 {
			w.d.Fail(w.r.Intn(20), w.r.Intn(65))
		}
		h, got, e := host.Recover(w.d, key, chain)
		w.d.Up()
		if e == api.ErrStop && h == nil && len(got) == 0 {
			w.kinds["power in Recover"]++
			now := written(w.T, w.d)
			if !slices.ContainsFunc(append(next.past, list), func(x [][]byte) bool { return slices.EqualFunc(x, now, bytes.Equal) }) {
				w.Fatalf("power went in Recover, and there is %x", now)
			}
			list = now
			continue
		}
		if e != api.OK || !slices.Equal(got, found) {
			w.Fatalf("found %v, %d, not %v", got, e, found)
		}
		for _, f := range got {
			w.kinds["found "+string(rune('0'+f.Outcome))]++
		}
		w.h, w.m = h, next
		w.held("Recover")
		return
	}
}

// hear brings what was sent to the client, and holds that it hears the beginning of what was written.
func (w *row) hear(conn int, b []byte) {
	w.Helper()
	c, ok := w.clients[conn]
	if !ok || len(b) == 0 {
		return
	}
	p, out, e := peer.Take(c.p, b)
	if e == api.ErrEnd {
		return
	}
	c.p = p
	c.way = append(c.way, out...)
	if e == api.OK {
		w.news = append(w.news, p.Tickets...)
		c.p.Tickets = nil
	}
	if !bytes.HasPrefix(c.wrote, p.Data) {
		w.Fatalf("%d hears what wasn't written", conn)
	}
}

// random does one thing or another.
func (w *row) random() {
	w.Helper()
	conn := w.r.Intn(4)
	if lives := w.h.Conns(); len(lives) > 0 && w.r.Intn(8) > 0 {
		conn = lives[w.r.Intn(len(lives))]
	}
	power := w.r.Intn(12) == 0
	c := w.clients[conn]
	switch n := w.r.Intn(20); {
	case n < 2:
		w.accept(power)
	case n < 9:
		w.take(conn, power)
	case n < 12 && c != nil:
		w.speak(c)
	case n < 14:
		text := probe.Bytes(w.r.Intn(1<<w.r.Intn(12)), w.r.Int())
		h, m := w.h, w.m
		if c != nil {
			c.wrote = append(c.wrote, text...)
		}
		o := w.step("Write", conn, power, func() (host.Out, api.Errno) { return h.Write(conn, text) }, func() (host.Out, api.Errno) {
			return m.sends(conn, func(s server.State, until []int) (server.State, server.Did, api.Errno) {
				return server.Write(s, until, text)
			})
		})
		if c != nil && len(o.Send) == 0 {
			c.wrote = c.wrote[:len(c.wrote)-len(text)]
		}
		w.hear(conn, o.Send)
	case n < 15:
		ask := w.r.Intn(2) == 0
		h, m := w.h, w.m
		o := w.step("Update", conn, power, func() (host.Out, api.Errno) { return h.Update(conn, ask) }, func() (host.Out, api.Errno) {
			return m.sends(conn, func(s server.State, until []int) (server.State, server.Did, api.Errno) {
				return server.Update(s, until, ask)
			})
		})
		w.hear(conn, o.Send)
	case n < 17:
		h, m := w.h, w.m
		o := w.step("Give", conn, power, func() (host.Out, api.Errno) { return h.Give(conn) }, func() (host.Out, api.Errno) { return m.give(conn) })
		w.hear(conn, o.Send)
	case n < 19:
		h, m := w.h, w.m
		w.step("Freeze", conn, power, func() (host.Out, api.Errno) { return host.Out{}, h.Freeze(conn) }, func() (host.Out, api.Errno) { return host.Out{}, m.freeze(conn) })
		if w.r.Intn(2) == 0 {
			w.recover(w.m.list)
		}
	case w.r.Intn(3) == 0:
		h, m := w.h, w.m
		o := w.step("Close", conn, power, func() (host.Out, api.Errno) { return h.Close(conn) }, func() (host.Out, api.Errno) { return m.sends(conn, server.Close) })
		w.hear(conn, o.Send)
	}
}

func (w *row) accept(power bool) {
	w.Helper()
	conn := w.r.Intn(60)
	h, m := w.h, w.m
	w.step("Accept", conn, power, func() (host.Out, api.Errno) { return host.Out{}, h.Accept(conn) }, func() (host.Out, api.Errno) { return host.Out{}, m.accept(conn) })
	if _, lives := w.h.State(conn); !lives || w.clients[conn] != nil {
		return
	}
	p := peer.Plan{Key: key, Share: w.r.Intn(3) > 0}
	if len(w.news) > 0 && w.r.Intn(3) > 0 {
		n := w.news[len(w.news)-1-w.r.Intn(min(len(w.news), 3))]
		p.Ticket, p.Psk = n.Ticket, n.Psk
	}
	c := &client{}
	c.p, c.way = peer.Hello(p, [64]byte(probe.Bytes(64, w.r.Int())))
	w.clients[conn] = c
}

// take has some of what is on its way come, rarely bent.
func (w *row) take(conn int, power bool) {
	w.Helper()
	var b []byte
	c := w.clients[conn]
	if c != nil {
		n := len(c.way)
		if w.r.Intn(3) == 0 && n > 0 {
			n = w.r.Intn(n)
		}
		b, c.way = c.way[:n:n], c.way[n:]
	}
	if w.r.Intn(60) == 0 {
		b = append(b, byte(w.r.Intn(26)), byte(w.r.Intn(4)))
	}
	by := [64]byte(probe.Bytes(64, w.r.Int()))
	h, m := w.h, w.m
	o := w.step("Take", conn, power, func() (host.Out, api.Errno) { return h.Take(conn, b, by) }, func() (host.Out, api.Errno) { return m.take(conn, b, by) })
	if c != nil {
		c.got = append(c.got, o.Data...)
		if !bytes.HasPrefix(c.said, c.got) {
			w.Fatalf("to %d is delivered what wasn't said", conn)
		}
	}
	w.hear(conn, o.Send)
}

// speak has a client say something.
func (w *row) speak(c *client) {
	text := probe.Bytes(w.r.Intn(500), w.r.Int())
	p, b, e := peer.Write(c.p, text)
	switch w.r.Intn(12) {
	case 0, 1, 2:
		p, b, e = peer.Update(c.p, w.r.Intn(2) == 0)
		text = nil
	case 3:
		if w.r.Intn(4) == 0 {
			p, b, e = peer.Close(c.p)
			text = nil
		}
	}
	if e == api.OK {
		c.p, c.way, c.said = p, append(c.way, b...), append(c.said, text...)
	}
}

// TestRows: P21.1, P21.2, P21.4; rows of calls, crashes and recoveries on disks of many sizes, against the model.
func TestRows(t *testing.T) {
	kinds := map[string]int{}
	for seed := range 60 {
		sectors := []int{8, 16, 30, 44, 60, 80, 120, 200, 512}[seed%9]
		w := newRow(t, sectors, seed)
		for range 250 {
			w.random()
		}
		once(t, "all Hosts", append(w.done, w.h.Seals()...))
		for kind, n := range w.kinds {
			kinds[kind] += n
		}
	}
	for _, want := range strings.Split("Accept 0,Accept 5,Accept ;,Take 0,Take 5,Take =,Write 0,Write 5,Write 9,Update 0,Give 0,Give 5,Close 0,Close 5,Freeze 0,Freeze 5,power,power in Recover,found 1,found 2", ",") {
		if kinds[want] == 0 {
			t.Errorf("%q isn't tried: %v", want, kinds)
		}
	}
	if testing.Verbose() {
		t.Log(kinds)
	}
}
