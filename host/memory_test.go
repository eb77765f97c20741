package host_test

import (
	"bytes"
	"math/rand"
	"testing"

	"relay/api"
	"relay/disk"
	"relay/host"
	"relay/peer"
	"relay/probe"
	"relay/snap"
	"relay/vault"
)

// lender lends bytes, or hands them in as they are, and holds that they are as they were.
type lender struct {
	*testing.T
	isLent bool
	lent   []probe.Lent
}

func (l *lender) lend(b []byte) []byte {
	if !l.isLent {
		return b
	}
	l.lent = append(l.lent, probe.Lend(b))
	return l.lent[len(l.lent)-1].Bytes()
}

// done: the call is done; what was lent is others' from here on.
func (l *lender) done() {
	l.Helper()
	for _, x := range l.lent {
		if !x.Kept() {
			l.Error("what was handed in is changed")
		}
		x.Spoil()
	}
	l.lent = nil
}

// chain is certificates with room behind.
func (l *lender) chain() [][]byte {
	out := make([][]byte, 2, 4)
	out[0], out[1] = l.lend([]byte{1, 2, 3}), l.lend(probe.Bytes(200, 1))
	return out
}

// taken: the chain was handed in.
func (l *lender) taken(chain [][]byte) {
	l.Helper()
	all := chain[:4]
	if all[2] != nil || all[3] != nil {
		l.Error("the chain is changed")
	}
	l.done()
	clear(all)
}

// converse is a whole connection, and what is sent and delivered.
func (l *lender) converse(h *host.Host, conn int) []byte {
	l.Helper()
	var out []byte
	c, b := greeted(l.T, h, conn, plan())
	for len(b) > 0 {
		var sends []byte
		for i := 0; i < len(b); i += 50 {
			sends = append(sends, sent(l.T, "Take")(h.Take(conn, l.lend(b[i:min(i+50, len(b))]), random(1)))...)
			l.done()
		}
		out = append(out, sends...)
		b = c.hear(l.T, sends)
	}
	out = append(out, sent(l.T, "Write")(h.Write(conn, l.lend([]byte("some text"))))...)
	l.done()
	o, e := h.Take(conn, l.lend(c.say(l.T, "another text")), random(1))
	ok(l.T, "Take", e)
	l.done()
	sent(l.T, "Take")(h.Take(conn, l.lend(c.say(l.T, "a third")[:20]), random(1)))
	l.done()
	ok(l.T, "Freeze", h.Freeze(conn))
	return append(out, o.Data...)
}

// TestLent: P21.5; what is handed in isn't changed, its spare room neither, and not kept.
func TestLent(t *testing.T) {
	run := func(isLent bool) ([]byte, [][]byte) {
		l := &lender{T: t, isLent: isLent}
		d, chain := made(t, 300), l.chain()
		h, e := host.Begin(d, key, chain)
		ok(t, "Begin", e)
		l.taken(chain)
		out := l.converse(h, 0)
		chain = l.chain()
		h, _, e = host.Recover(d, key, chain)
		ok(t, "Recover", e)
		l.taken(chain)
		return append(out, l.converse(h, 1)...), written(t, d)
	}
	want, entries := run(false)
	got, lent := run(true)
	if !bytes.Equal(got, want) {
		t.Error("what was handed in is kept")
	}
	hold(t, "entries", lent, entries...)
}

// spoiler takes a Host's answers, and perhaps spoils them.
type spoiler struct {
	*testing.T
	h         *host.Host
	isSpoiled bool
	all       []byte
}

// take takes what came of a step.
func (w *spoiler) take(o host.Out, e api.Errno) []byte {
	w.Helper()
	ok(w.T, "a step", e)
	send := bytes.Clone(o.Send)
	w.all = append(w.all, joined(o.Send, o.Data)...)
	if w.isSpoiled {
		probe.Spoil(o.Send)
		probe.Spoil(o.Data)
		w.spoil()
	}
	return send
}

// spoil spoils all that can be asked.
func (w *spoiler) spoil() {
	for _, conn := range w.h.Conns() {
		s, _ := w.h.State(conn)
		for _, b := range [][]byte{s.Log, s.Part, s.Used} {
			probe.Spoil(b)
		}
	}
	conns, seals := w.h.Conns(), w.h.Seals()
	clear(conns)
	clear(seals)
}

// TestAnswersAreNew: P21.5; spoiled answers change nothing.
func TestAnswersAreNew(t *testing.T) {
	run := func(isSpoiled bool) ([]byte, []host.Seal) {
		h, d := begun(t, 300)
		w := &spoiler{T: t, h: h, isSpoiled: isSpoiled}
		l, b := greeted(t, h, 1, plan())
		w.take(h.Take(1, b[:30], random(1)))
		b = l.hear(t, w.take(h.Take(1, b[30:], random(1))))
		w.take(h.Take(1, b, random(1)))
		l.hear(t, w.take(h.Give(1)))
		l.hear(t, w.take(h.Write(1, []byte("hi"))))
		_, hello := peer.Hello(l.ticketed(), random(9))
		ok(t, "Accept", h.Accept(2))
		w.take(h.Take(2, hello, random(3)))
		if len(state(t, h, 2).Used) == 0 {
			t.Error("it isn't resumed")
		}
		w.take(h.Take(1, joined(l.say(t, "one"), l.say(t, "two"), l.turn(t, true)), random(1)))
		ok(t, "Freeze", h.Freeze(1))
		seals := h.Seals()
		h, list, e := host.Recover(d, key, chain)
		ok(t, "Recover", e)
		w.h = h
		if isSpoiled {
			clear(list)
			w.spoil()
		}
		w.take(h.Write(1, []byte("more")))
		w.take(h.Update(1, true))
		return joined(w.all, joined(written(t, d)...)), append(seals, h.Seals()...)
	}
	want, seals := run(false)
	got, spoiled := run(true)
	if !bytes.Equal(got, want) || len(seals) != len(spoiled) {
		t.Error("an answer is kept")
	}
	for i := range seals {
		if seals[i] != spoiled[i] {
			t.Errorf("seal %d is another one", i)
		}
	}
}

// TestSendAndDataAreApart: P21.5; no two lists of one answer share any.
func TestSendAndDataAreApart(t *testing.T) {
	h, _ := begun(t, 300)
	l := opened(t, h, 1, plan())
	o, e := h.Take(1, joined(l.say(t, "hi"), l.turn(t, true)), random(1))
	ok(t, "Take", e)
	send := bytes.Clone(o.Send)
	probe.Spoil(o.Data)
	if !bytes.Equal(o.Send, send) || len(send) == 0 {
		t.Error("they aren't")
	}
	s, _ := h.State(1)
	log := bytes.Clone(s.Log)
	probe.Spoil(s.Part)
	probe.Spoil(s.Used)
	if !bytes.Equal(s.Log, log) {
		t.Error("a State's lists aren't")
	}
}

// TestWild: P21.1; whatever a journal tells, all calls end, and none panics.
func TestWild(t *testing.T) {
	r := rand.New(rand.NewSource(5))
	found := 0
	for seed := range 400 {
		var list [][]byte
		for range r.Intn(12) {
			list = append(list, wildEntry(t, r))
		}
		d := laid(t, []int{40, 200, 512}[seed%3], nil...)
		d = fits(t, d, list)
		h, all, e := host.Recover(d, key, chain)
		if e != api.OK {
			if e != api.ErrForm && e != api.ErrFull || h != nil {
				t.Fatalf("%x: %d", list, e)
			}
			continue
		}
		found += len(all)
		for range 30 {
			conn := r.Intn(4)
			switch r.Intn(7) {
			case 0:
				h.Accept(conn)
			case 1:
				h.Take(conn, probe.Bytes(r.Intn(300), r.Int()), random(r.Int()))
			case 2:
				h.Write(conn, probe.Bytes(r.Intn(5000), r.Int()))
			case 3:
				h.Update(conn, r.Intn(2) == 0)
			case 4:
				h.Give(conn)
			case 5:
				h.Freeze(conn)
			case 6:
				if r.Intn(5) == 0 {
					h.Close(conn)
				}
			}
		}
		if _, _, e := host.Recover(d, key, chain); e != api.OK {
			t.Errorf("seed %d: what a Host wrote can't be read: %d", seed, e)
		}
	}
	if found < 50 {
		t.Errorf("%d connections are found", found)
	}
}

// fits is a disk as d, with as many of the entries as have room.
func fits(t *testing.T, d *disk.Disk, list [][]byte) *disk.Disk {
	t.Helper()
	for n := len(list); ; n-- {
		free := room(t, d)
		for _, b := range list[:n] {
			free -= (len(b) + 18 + 63) / 64
		}
		if free >= 0 {
			return laid(t, d.Size(), list[:n]...)
		}
	}
}

// wildEntry is one that can be read, of numbers as they come.
func wildEntry(t *testing.T, r *rand.Rand) []byte {
	t.Helper()
	conn := []byte{0, byte(r.Intn(4))}
	number := []byte{[]byte{0, 0, 127, 128, 255}[r.Intn(5)], byte(r.Intn(2) * 255), byte(r.Intn(2) * 255), byte(r.Intn(256))}
	switch r.Intn(12) {
	case 0:
		return joined([]byte{1}, conn, number[:3])
	case 1:
		return joined([]byte{2}, number)
	case 2:
		return joined([]byte{5}, conn)
	case 3:
		return joined([]byte{6}, number, probe.Bytes(32, r.Int()))
	case 4:
		return joined([]byte{7}, number)
	case 5, 6, 7:
		return joined([]byte{4}, conn)
	}
	s, _ := snap.Put(wildState(r), 3)
	left := probe.Bytes(r.Intn(20), r.Int())
	b, e := vault.Seal(vaultKey(), vault.Note{Count: r.Intn(1 << 31), Conn: int(conn[1]), Generation: r.Intn(1 << 31)}, joined([]byte{0, byte(len(left))}, left, s))
	ok(t, "vault.Seal", e)
	return joined([]byte{3}, conn, b)
}
