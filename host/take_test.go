package host_test

import (
	"bytes"
	"testing"

	"relay/api"
	"relay/host"
	"relay/peer"
	"relay/probe"
	"relay/record"
	"relay/server"
)

// TestPieces: P21.1; in whatever pieces the bytes come the same is sent.
func TestPieces(t *testing.T) {
	for _, p := range []peer.Plan{plan(), {Key: key}} {
		var all [][]byte
		for _, size := range []int{1, 2, 5, 60, 1 << 20} {
			h, _ := begun(t, 300)
			l, b := greeted(t, h, 1, p)
			var out []byte
			for i := 0; len(b) > 0; i++ {
				var came []byte
				for n := range (len(b) + size - 1) / size {
					came = append(came, sent(t, "Take")(h.Take(1, b[n*size:min((n+1)*size, len(b))], random(i)))...)
				}
				out = append(out, came...)
				b = l.hear(t, came)
			}
			if l.p.Phase != peer.Open {
				t.Errorf("pieces of %d: phase %d", size, l.p.Phase)
			}
			all = append(all, out)
		}
		for _, out := range all {
			if !bytes.Equal(out, all[0]) {
				t.Errorf("something else is sent: %x, not %x", out, all[0])
			}
		}
	}
}

// TestManyRecords: P21.1; in one Take: all is delivered, in order, and all is sent.
func TestManyRecords(t *testing.T) {
	h, d := begun(t, 300)
	l := opened(t, h, 1, plan())
	var b []byte
	for _, text := range []string{"one", "two", "", "three"} {
		b = append(b, l.say(t, text)...)
		b = append(b, l.turn(t, true)...)
	}
	last := l.say(t, "four")
	b = append(b, last[:len(last)-1]...)
	n := len(written(t, d))
	o, e := h.Take(1, b, random(3))
	ok(t, "Take", e)
	if string(o.Data) != "onetwothree" {
		t.Errorf("%q is delivered", o.Data)
	}
	l.hear(t, o.Send)
	hold(t, "Take", written(t, d)[n:], []byte{1, 0, 1, 0, 2, 8}, []byte{1, 0, 1, 0, 3, 8}, []byte{1, 0, 1, 0, 4, 8}, []byte{1, 0, 1, 0, 5, 8})
	if s := state(t, h, 1); s.InEpoch != 6 || s.OutEpoch != 6 || l.p.InEpoch != 6 || l.p.OutEpoch != 6 {
		t.Errorf("epochs %d, %d", s.InEpoch, s.OutEpoch)
	}
	o, e = h.Take(1, last[len(last)-1:], random(3))
	if string(o.Data) != "four" || len(o.Send) > 0 || e != api.OK {
		t.Errorf("%q is delivered, %d", o.Data, e)
	}
	o, e = h.Take(1, nil, random(3))
	if len(o.Data)+len(o.Send) > 0 || e != api.OK {
		t.Errorf("of no byte: %v, %d", o, e)
	}
}

// TestNoRecord: P21.1; alert 10, or 22, as soon as it is known; plain, or sealed as soon as there is a key; what is left isn't looked at.
func TestNoRecord(t *testing.T) {
	for _, c := range []struct {
		b     []byte
		alert int
	}{
		{[]byte{0}, 10}, {[]byte{19}, 10}, {[]byte{24}, 10}, {[]byte{22, 2}, 10}, {[]byte{23, 4}, 10},
		{[]byte{22, 3, 3, 1, 1}, 22}, {[]byte{23, 3, 3, 1, 18}, 22}, {[]byte{20, 3, 0, 255, 255}, 22},
	} {
		b := joined(c.b, probe.Bytes(400, 2))
		h, _ := begun(t, 300)
		ok(t, "Accept", h.Accept(1))
		if n := len(c.b) - 1; n > 0 {
			if o, e := h.Take(1, b[:n], random(1)); len(o.Send) > 0 || e != api.OK {
				t.Errorf("%x: %v, %d", b[:n], o, e)
			}
		}
		o, e := h.Take(1, b[len(c.b)-1:], random(1))
		if want := []byte{21, 3, 3, 0, 2, 2, byte(c.alert)}; !bytes.Equal(o.Send, want) || e != api.OK || len(h.Conns()) > 0 {
			t.Errorf("%x: %x, %d", c.b, o.Send, e)
		}
		h, _ = begun(t, 300)
		l := opened(t, h, 1, plan())
		o, e = h.Take(1, joined(l.say(t, "ahead"), b), random(1))
		ok(t, "Take", e)
		l.hear(t, o.Send)
		if l.p.Phase != peer.Closed || l.p.Alert != c.alert || string(o.Data) != "ahead" || len(h.Conns()) > 0 {
			t.Errorf("%x: alert %d, %q", c.b, l.p.Alert, o.Data)
		}
	}
}

// TestBehindTheEnd: P21.1; what stands behind a record that closes isn't looked at, be it a record or none.
func TestBehindTheEnd(t *testing.T) {
	for _, behind := range [][]byte{nil, {0, 0}, {23, 3, 3, 1, 18}, {21, 3, 3, 0, 2, 2, 40}} {
		h, _ := begun(t, 300)
		l := opened(t, h, 1, plan())
		b := l.say(t, "hi")
		p, end, _ := peer.Close(l.p)
		_, more, _ := peer.Write(l.p, []byte("more"))
		o, e := h.Take(1, joined(b, end, more, behind), random(1))
		if string(o.Data) != "hi" || e != api.OK || len(h.Conns()) > 0 || p.Phase != peer.Closed {
			t.Errorf("%x: %q, %d", behind, o.Data, e)
		}
		l.hear(t, o.Send)
		if l.p.Alert != api.CloseNotify || l.p.Phase != peer.Closed {
			t.Errorf("alert %d", l.p.Alert)
		}
	}
}

// TestRandom: P21.1; the bytes of the greeting's Take are server's, of all records of it; by those of a retry nothing is done.
func TestRandom(t *testing.T) {
	h, _ := begun(t, 300)
	l, b := greeted(t, h, 1, plan())
	want, did, _ := server.Take(server.New(), server.Host{Key: key, Chain: chain}, []int{0, 64}, record.Handshake, b[5:], random(77))
	got := sent(t, "Take")(h.Take(1, joined([]byte{20, 3, 3, 0, 1, 1}, b), random(77)))
	if !bytes.Equal(got, did.Send) || !same(state(t, h, 1), want) {
		t.Error("something else is sent")
	}
	l.hear(t, got)
	_, b = greeted(t, h, 2, plan())
	// SHA-256 of "HelloRetryRequest"
	retry := [64]byte(joined(probe.Hex("CF21AD74E59A6111BE1D8C021E65B891C2A211167ABB8C5E079E09E2C8A8339C"), probe.Bytes(32, 1)))
	o, e := h.Take(2, b, retry)
	if e != api.ErrArg || len(o.Send) > 0 || !same(state(t, h, 2), server.New()) {
		t.Errorf("%v, %d", o, e)
	}
	if b = sent(t, "Take")(h.Take(2, b, random(3))); len(b) < 200 {
		t.Errorf("%x", b)
	}
}

// TestChain: P21.1; the certificates that are handed in are those that are sent; one that can't be is alert 40.
func TestChain(t *testing.T) {
	for _, c := range []struct {
		chain [][]byte
		alert int
	}{
		{[][]byte{probe.Bytes(300, 1), probe.Bytes(300, 2), probe.Bytes(300, 3), probe.Bytes(300, 4)}, -1},
		{[][]byte{{}}, 40}, {nil, 40}, {[][]byte{probe.Bytes(301, 1)}, 40},
	} {
		h, e := host.Begin(made(t, 300), key, c.chain)
		ok(t, "Begin", e)
		l, b := greeted(t, h, 1, plan())
		b = l.hear(t, sent(t, "Take")(h.Take(1, b, random(3))))
		if l.p.Alert != c.alert || (l.p.Phase == peer.Open) != (c.alert < 0) || (len(h.Conns()) == 1) != (c.alert < 0) {
			t.Errorf("alert %d, phase %d", l.p.Alert, l.p.Phase)
		}
		for _, certificate := range c.chain {
			if s, lives := h.State(1); lives && !bytes.Contains(s.Log, certificate) {
				t.Error("a certificate isn't sent")
			}
		}
		if c.alert < 0 {
			sent(t, "Take")(h.Take(1, b, random(3)))
		}
	}
}

// TestAnotherKey: P21.1; whoever knows another key doesn't come to Open.
func TestAnotherKey(t *testing.T) {
	h, _ := begun(t, 300)
	l, b := greeted(t, h, 1, peer.Plan{Key: probe.Array(6), Share: true})
	p, _, e := peer.Take(l.p, sent(t, "Take")(h.Take(1, b, random(3))))
	if e != api.ErrAlert || p.Alert != api.DecryptError {
		t.Errorf("%d, alert %d", e, p.Alert)
	}
}

// TestSeals: P21.1; of all records and snapshots, in order.
func TestSeals(t *testing.T) {
	h, _ := begun(t, 300)
	l, b := greeted(t, h, 1, plan())
	var want []host.Seal
	held := func(what string) {
		t.Helper()
		got := h.Seals()
		for i := range max(len(got), len(want)) {
			if i >= len(got) || i >= len(want) || got[i] != want[i] {
				t.Fatalf("%s: %d seals, not %d; seal %d is another one", what, len(got), len(want), i)
			}
		}
	}
	held("Accept")
	_, did, _ := server.Take(server.New(), server.Host{Key: key, Chain: chain}, []int{0, 64}, record.Handshake, b[5:], random(7))
	for _, s := range did.Seals {
		want = append(want, sealOf(s.Secret, s.Seq))
	}
	b = l.hear(t, sent(t, "Take")(h.Take(1, b, random(7))))
	held("a greeting")
	sent(t, "Take")(h.Take(1, b, random(7)))
	s := state(t, h, 1)
	for i := range 3 {
		sent(t, "Write")(h.Write(1, []byte("hi")))
		want = append(want, sealOf(s.Out, i))
		held("Write")
		ok(t, "Freeze", h.Freeze(1))
		want = append(want, countOf(i))
		held("Freeze")
	}
	sent(t, "Give")(h.Give(1))
	sent(t, "Update")(h.Update(1, true))
	want = append(want, sealOf(s.Out, 3), sealOf(s.Out, 4))
	sent(t, "Close")(h.Close(1))
	want = append(want, sealOf(record.Next(s.Out), 0))
	held("Close")
	once(t, "all", want)
}
