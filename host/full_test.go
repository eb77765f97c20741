package host_test

import (
	"bytes"
	"slices"
	"testing"

	"relay/api"
	"relay/disk"
	"relay/host"
	"relay/peer"
	"relay/probe"
	"relay/record"
)

// fill has connections come and go till no sector of the journal is free, also behind a compaction; the last one may live.
func fill(t *testing.T, h *host.Host, d *disk.Disk) {
	t.Helper()
	for conn := 2000; ; conn++ {
		e := h.Accept(conn)
		if e == api.ErrFull && room(t, d) == 0 {
			return
		}
		ok(t, "Accept", e)
		if _, e := h.Close(conn); e == api.ErrFull && room(t, d) == 0 {
			return
		}
	}
}

// TestCompact: P21.1; which entries count yet, and their order.
func TestCompact(t *testing.T) {
	h, d := begun(t, 512)
	one := opened(t, h, 1, plan())
	ok(t, "Freeze", h.Freeze(1))
	for range 9 {
		one.hear(t, sent(t, "Give")(h.Give(1)))
	}
	opened(t, h, 2, one.ticketed()) // ticket 8, the last one
	three := one.p.Tickets[3]
	opened(t, h, 3, peer.Plan{Key: key, Share: true, Ticket: three.Ticket, Psk: three.Psk})
	ok(t, "Freeze", h.Freeze(2))
	sent(t, "Write")(h.Write(2, []byte("hi")))
	sent(t, "Close")(h.Close(3))
	ok(t, "Freeze", h.Freeze(1))
	ok(t, "Freeze", h.Freeze(2))
	sent(t, "Update")(h.Update(2, false))
	sent(t, "Write")(h.Write(2, []byte("hi")))
	sent(t, "Write")(h.Write(1, []byte("hi")))
	ok(t, "Accept", h.Accept(4))
	for range 8 {
		ok(t, "Freeze", h.Freeze(4))
	}
	five, b := greeted(t, h, 5, plan())
	five.hear(t, sent(t, "Take")(h.Take(5, b, random(1))))
	want := counting(written(t, d))
	// 2 once, of four connections 4, of three 3, of connections 1, 2 and 5 1 (of 2 those of two epochs), a 5, six tickets and the last one, a 7
	if n := len(want); n != 1+4+3+4+1+7+1 {
		t.Fatalf("%d entries count", n)
	}
	sent(t, "Close")(h.Close(4))
	want = slices.DeleteFunc(want, func(b []byte) bool { return (b[0] == 3 || b[0] == 4) && b[2] == 4 })
	want = append(want, end(4))
	hold(t, "compacted", comeAndGo(t, h, d, want), written(t, d)...)
	once(t, "all", h.Seals())
}

// counting is which of TestCompact's entries count yet, as long as nothing but connection 3 ended.
func counting(list [][]byte) [][]byte {
	var out [][]byte
	for i, b := range list {
		isLast := func(n int) bool { // no other begins so
			return !slices.ContainsFunc(list[i+1:], func(c []byte) bool { return bytes.HasPrefix(c, b[:n]) })
		}
		isKept := true
		switch b[0] {
		case 1:
			isFrozen := slices.ContainsFunc(list[i:], func(c []byte) bool { return c[0] == 3 && bytes.Equal(c[1:3], b[1:3]) })
			isKept = b[2] != 3 && !isFrozen
		case 2:
			isKept = isLast(1)
		case 3:
			isKept = isLast(3)
		case 4:
			isKept = b[2] != 3
		case 6:
			isKept = b[4] != 0 && b[4] != 3
		case 7:
			isKept = b[4] == 8
		}
		if isKept {
			out = append(out, b)
		}
	}
	return out
}

// comeAndGo has connections come and go till the journal is compacted: what should stand there then, behind what counts.
func comeAndGo(t *testing.T, h *host.Host, d *disk.Disk, counts [][]byte) [][]byte {
	t.Helper()
	for conn := 2000; ; conn++ {
		began := []byte{4, byte(conn >> 8), byte(conn)}
		n := len(written(t, d))
		ok(t, "Accept", h.Accept(conn))
		if len(written(t, d)) <= n {
			return append(counts, began)
		}
		sent(t, "Close")(h.Close(conn))
		if len(written(t, d)) <= n+1 {
			return append(counts, began, end(conn))
		}
		counts = append(counts, end(conn))
	}
}

// unchanged: a step tells ErrFull, and all is as it was.
func unchanged(t *testing.T, what string, h *host.Host, d *disk.Disk, step func() (host.Out, api.Errno)) {
	t.Helper()
	list, conns, seals := written(t, d), h.Conns(), len(h.Seals())
	states := map[int]any{}
	for _, conn := range conns {
		states[conn] = plain(state(t, h, conn))
	}
	o, e := step()
	if e != api.ErrFull || len(o.Send)+len(o.Data) > 0 || !slices.Equal(h.Conns(), conns) || len(h.Seals()) != seals || !h.On() {
		t.Errorf("%s: %v, %d, %v live, %d seals", what, o, e, h.Conns(), len(h.Seals())-seals)
	}
	for _, conn := range h.Conns() {
		if was, _ := states[conn]; !equal(was, plain(state(t, h, conn))) {
			t.Errorf("%s: %d is another one", what, conn)
		}
	}
	hold(t, what, written(t, d), list...)
}

// gone: a step tells ErrFull behind seals, and the connection doesn't live any more.
func gone(t *testing.T, what string, h *host.Host, conn, seals int, step func() (host.Out, api.Errno)) {
	t.Helper()
	n := len(h.Seals())
	want := slices.DeleteFunc(h.Conns(), func(x int) bool { return x == conn })
	o, e := step()
	if e != api.ErrFull || len(o.Send)+len(o.Data) > 0 || len(h.Seals()) != n+seals || !slices.Equal(h.Conns(), want) || !h.On() {
		t.Errorf("%s: %v, %d, %v live, %d seals", what, o, e, h.Conns(), len(h.Seals())-n)
	}
	allRefused(t, h, conn, api.ErrNone)
	if e := h.Accept(conn); e != api.ErrKnown {
		t.Errorf("%s: Accept %d", what, e)
	}
	once(t, what, h.Seals())
}

// TestFullAhead: P21.1; no number can be reserved: nothing is done, and all goes on, once there is room.
func TestFullAhead(t *testing.T) {
	h, d := begun(t, 60)
	l := opened(t, h, 1, plan())
	_, hello := greeted(t, h, 2, plan())
	fill(t, h, d)
	all := steps(h, 1)
	for _, what := range []string{"Write", "Update", "Give", "Close", "Freeze"} {
		unchanged(t, what, h, d, all[what])
	}
	asked := l.turn(t, true)
	for what, b := range map[string][]byte{"an update that asks": asked, "no record": {0}, "another record": {21, 3, 3, 0, 2, 1, 0}, "data, and no record": joined(l.say(t, "hi"), []byte{0})} {
		unchanged(t, what, h, d, func() (host.Out, api.Errno) { return h.Take(1, b, random(1)) })
	}
	unchanged(t, "a greeting", h, d, func() (host.Out, api.Errno) { return h.Take(2, hello, random(1)) })
	unchanged(t, "a plain alert", h, d, func() (host.Out, api.Errno) { return h.Take(2, []byte{0}, random(1)) })
	unchanged(t, "Close of a connection that isn't sealed", h, d, func() (host.Out, api.Errno) { return h.Close(2) })
	unchanged(t, "Accept", h, d, func() (host.Out, api.Errno) { return host.Out{}, h.Accept(9) })
	unchanged(t, "no byte of a record, twice", h, d, func() (host.Out, api.Errno) {
		sent(t, "Take")(h.Take(2, hello[:30], random(1)))
		return h.Take(2, hello[30:], random(1))
	})
}

// TestFullBehind: P21.1; numbers are there, but what a record stands for can't be written: nothing is sent by them any more.
func TestFullBehind(t *testing.T) {
	for what, step := range map[string]func(h *host.Host, l *link) (host.Out, api.Errno){
		"Give":  func(h *host.Host, l *link) (host.Out, api.Errno) { return h.Give(1) },
		"Close": func(h *host.Host, l *link) (host.Out, api.Errno) { return h.Close(1) },
		"Write": func(h *host.Host, l *link) (host.Out, api.Errno) { return h.Write(1, []byte("hi")) },
		"an update that asks": func(h *host.Host, l *link) (host.Out, api.Errno) {
			return h.Take(1, l.turn(t, true), random(1))
		},
		"two updates that ask": func(h *host.Host, l *link) (host.Out, api.Errno) {
			return h.Take(1, joined(l.turn(t, true), l.turn(t, true)), random(1))
		},
		"no record":  func(h *host.Host, l *link) (host.Out, api.Errno) { return h.Take(1, []byte{0}, random(1)) },
		"Freeze":     func(h *host.Host, l *link) (host.Out, api.Errno) { return host.Out{}, h.Freeze(1) },
		"long Write": func(h *host.Host, l *link) (host.Out, api.Errno) { return h.Write(1, make([]byte, 256*8)) },
	} {
		h, d := begun(t, 60)
		l := opened(t, h, 1, plan())
		ok(t, "Freeze", h.Freeze(1)) // so counts are reserved
		l.hear(t, sent(t, "Write")(h.Write(1, []byte("hi"))))
		fill(t, h, d)
		list := written(t, d)
		switch what {
		case "Write", "an update that asks":
			l.hear(t, sent(t, what)(step(h, l)))
			hold(t, what, written(t, d), list...)
			continue
		case "long Write":
			unchanged(t, what, h, d, func() (host.Out, api.Errno) { return step(h, l) })
			continue
		case "Freeze":
			s, n := state(t, h, 1), len(h.Seals())
			if _, e := step(h, l); e != api.ErrFull || !same(state(t, h, 1), s) {
				t.Errorf("Freeze: %d", e)
			}
			if seals := h.Seals(); len(seals) != n+1 || seals[n] != countOf(1) {
				t.Errorf("Freeze: %v", seals[n:])
			}
			l.hear(t, sent(t, "Write")(h.Write(1, []byte("hi"))))
			hold(t, what, written(t, d), list...)
			continue
		}
		gone(t, what, h, 1, 1, func() (host.Out, api.Errno) { return step(h, l) })
		hold(t, what, written(t, d), list...)
		found := []host.Found{aborted(1)}
		for _, conn := range h.Conns() {
			found = append(found, aborted(conn))
		}
		h = recovered(t, d, found...)
		recovered(t, d)
		if e := h.Accept(1); e != api.ErrKnown {
			t.Errorf("%s: Accept %d", what, e)
		}
	}
}

// TestFullSomewhere: P21.1; on disks of all sizes: as far as the numbers can't be reserved nothing is done; where they can, but not what the records stand for, nothing is sent by them; else all is done.
func TestFullSomewhere(t *testing.T) {
	for what, step := range map[string]func(h *host.Host, one *link, hello []byte) (int, host.Out, api.Errno){
		"a ticket is used": func(h *host.Host, one *link, hello []byte) (int, host.Out, api.Errno) {
			o, e := h.Take(2, hello, random(1))
			return 2, o, e
		},
		"a ticket is given": func(h *host.Host, one *link, hello []byte) (int, host.Out, api.Errno) {
			o, e := h.Give(1)
			return 1, o, e
		},
		"it closes": func(h *host.Host, one *link, hello []byte) (int, host.Out, api.Errno) {
			o, e := h.Close(1)
			return 1, o, e
		},
		"two updates, and an end": func(h *host.Host, one *link, hello []byte) (int, host.Out, api.Errno) {
			o, e := h.Take(1, joined(one.turn(t, true), one.say(t, "hi"), one.turn(t, true), []byte{0}), random(1))
			return 1, o, e
		},
	} {
		if seen := somewhere(t, what, step); !slices.Equal(seen, []string{"nothing", "gone", "all"}) {
			t.Errorf("%s: %v", what, seen)
		}
	}
}

// somewhere does a step on disks of more and more sectors, and tells what came of it, once each.
func somewhere(t *testing.T, what string, step func(h *host.Host, one *link, hello []byte) (int, host.Out, api.Errno)) []string {
	t.Helper()
	var seen []string
	for sectors := 40; sectors < 70; sectors += 2 {
		h, d, one, hello := crowded(t, sectors)
		if h == nil {
			continue
		}
		n := len(h.Seals())
		states := map[int]any{}
		for _, conn := range h.Conns() {
			states[conn] = plain(state(t, h, conn))
		}
		conn, o, e := step(h, one, hello)
		_, lives := h.State(conn)
		outcome := "all"
		if e == api.ErrFull {
			outcome = "nothing"
			if len(h.Seals()) > n {
				outcome = "gone"
			}
			if len(o.Send)+len(o.Data) > 0 || lives != (outcome == "nothing") || lives && !equal(plain(state(t, h, conn)), states[conn]) {
				t.Errorf("%s, %d sectors, %s: %v, %v", what, sectors, outcome, o, lives)
			}
		} else if e != api.OK || len(o.Send) == 0 {
			t.Errorf("%s, %d sectors: %v, %d", what, sectors, o, e)
		}
		if len(seen) == 0 || seen[len(seen)-1] != outcome {
			seen = append(seen, outcome)
		}
		once(t, what, h.Seals())
		if outcome == "gone" {
			var found []host.Found
			for _, conn := range append(h.Conns(), conn) {
				found = append(found, aborted(conn))
			}
			slices.SortFunc(found, func(a, b host.Found) int { return a.Conn - b.Conn })
			recovered(t, d, found...)
		}
	}
	return seen
}

// crowded is a Host that has two connections, of which one gave a ticket by which the other one begins, and the ends of others; nil, if all that has no room.
func crowded(t *testing.T, sectors int) (*host.Host, *disk.Disk, *link, []byte) {
	t.Helper()
	h, d := begun(t, sectors)
	one := opened(t, h, 1, plan())
	one.hear(t, sent(t, "Give")(h.Give(1)))
	ok(t, "Accept", h.Accept(2))
	_, hello := peer.Hello(one.ticketed(), random(7))
	for range 7 {
		one.hear(t, sent(t, "Write")(h.Write(1, []byte("hi"))))
	}
	for conn := 2000; conn < 2014; conn++ {
		if h.Accept(conn) != api.OK {
			return nil, nil, nil, nil
		}
		if _, e := h.Close(conn); e != api.OK {
			return nil, nil, nil, nil
		}
	}
	if h.Accept(2999) != api.OK {
		return nil, nil, nil, nil
	}
	return h, d, one, hello
}

// TestTicketOfOneThatIsGone: P21.1; that it is used up couldn't be written, so another connection may be resumed by it.
func TestTicketOfOneThatIsGone(t *testing.T) {
	isSeen := false
	for sectors := 40; sectors < 70; sectors += 2 {
		h, _, one, hello := crowded(t, sectors)
		if h == nil {
			continue
		}
		n := len(h.Seals())
		if _, e := h.Take(2, hello, random(1)); e != api.ErrFull || len(h.Seals()) == n {
			continue
		}
		isSeen = true
		for e := api.OK; e == api.OK; { // what the first connection wrote makes room
			_, e = h.Give(1)
		}
		m := opened(t, h, 3, one.ticketed())
		if !m.p.Resumed {
			t.Error("it isn't resumed")
		}
		once(t, "all", h.Seals())
	}
	if !isSeen {
		t.Error("nothing is tried")
	}
}

// TestGoneMakesRoom: P21.1, P21.4; of a connection that doesn't live any more only that it began is kept; it is found, once.
func TestGoneMakesRoom(t *testing.T) {
	h, d := begun(t, 60)
	l := opened(t, h, 1, plan())
	ok(t, "Freeze", h.Freeze(1))
	l.hear(t, sent(t, "Write")(h.Write(1, []byte("hi"))))
	fill(t, h, d)
	list := written(t, d)
	gone(t, "Give", h, 1, 1, func() (host.Out, api.Errno) { return h.Give(1) })
	want := slices.DeleteFunc(list, func(b []byte) bool { return (b[0] == 1 || b[0] == 3) && b[2] == 1 })
	ok(t, "Accept", h.Accept(5))
	hold(t, "Accept", written(t, d), append(want, []byte{4, 0, 5})...)
	found := []host.Found{aborted(1)}
	for _, conn := range h.Conns() {
		found = append(found, aborted(conn))
	}
	recovered(t, d, found...)
	recovered(t, d)
}

// TestRecoverOnFull: P21.4; what the aborted wrote makes room for their ends; wherever power goes then, all are found, or it is written that they ended.
func TestRecoverOnFull(t *testing.T) {
	h, d := begun(t, 60)
	opened(t, h, 1, plan())
	ok(t, "Freeze", h.Freeze(1))
	ok(t, "Accept", h.Accept(2))
	sent(t, "Update")(h.Update(1, false))
	sent(t, "Write")(h.Write(1, []byte("hi")))
	fill(t, h, d)
	conns := h.Conns()
	var all []host.Found
	for _, conn := range conns {
		all = append(all, aborted(conn))
	}
	recovered(t, d.Copy(), all...)
	for writes := range 200 {
		d := d.Copy()
		d.Fail(writes, 11*writes%65)
		_, list, e := host.Recover(d, key, chain)
		if e == api.OK {
			if writes < 30 || !slices.Equal(list, all) {
				t.Errorf("%d writes: %v", writes, list)
			}
			return
		}
		if e != api.ErrStop || len(list) > 0 {
			t.Errorf("%d writes: %v, %d", writes, list, e)
		}
		d.Up()
		before := written(t, d)
		h, list, e := host.Recover(d, key, chain)
		ok(t, "Recover", e)
		for _, found := range all {
			wasEnded := slices.ContainsFunc(before, func(b []byte) bool { return bytes.Equal(b, end(found.Conn)) })
			if slices.Contains(list, found) == wasEnded {
				t.Errorf("%d writes: %v", writes, list)
			}
		}
		for _, conn := range conns {
			isEnded := slices.ContainsFunc(written(t, d), func(b []byte) bool { return bytes.Equal(b, end(conn)) })
			if e := h.Accept(conn); e != api.ErrKnown || !isEnded {
				t.Errorf("%d writes: Accept of %d: %d", writes, conn, e)
			}
		}
	}
	t.Error("it isn't done by 200 writes")
}

// end is the entry that a connection ended.
func end(conn int) []byte { return []byte{5, byte(conn >> 8), byte(conn)} }

// TestOnlyBeginnings: P21.4; a journal that is full of beginnings alone.
func TestOnlyBeginnings(t *testing.T) {
	for sectors := 4; sectors <= 10; sectors++ {
		h, d := begun(t, sectors)
		n := (sectors - 2) / 2
		var all []host.Found
		for conn := range n {
			ok(t, "Accept", h.Accept(conn))
			all = append(all, aborted(conn))
		}
		if n < api.MaxConns {
			unchanged(t, "Accept", h, d, func() (host.Out, api.Errno) { return host.Out{}, h.Accept(9) })
		}
		h = recovered(t, d, all...)
		recovered(t, d)
		if e := h.Accept(n - 1); e != api.ErrKnown {
			t.Errorf("%d sectors: Accept %d", sectors, e)
		}
	}
}

// TestLongSnapshots: P21.1; an entry has 4096 bytes at most: with one more it is journal's ErrArg, and the connection lives on.
func TestLongSnapshots(t *testing.T) {
	d := made(t, 512)
	h, e := host.Begin(d, key, [][]byte{probe.Bytes(300, 1), probe.Bytes(300, 2), probe.Bytes(300, 3), probe.Bytes(300, 4)})
	ok(t, "Begin", e)
	l := opened(t, h, 1, peer.Plan{Key: key, Share: true, Ticket: probe.Bytes(255, 1)})
	ok(t, "Freeze", h.Freeze(1))
	list := written(t, d)
	n := 4096 - len(list[len(list)-1])
	part := joined([]byte{24, 0, 8, 0}, make([]byte, 2048))[:n]
	seq := l.p.OutSeq
	come := func(b []byte) {
		t.Helper()
		r, e := record.Seal(record.Derive(l.p.Out), uint64(seq), record.Handshake, b, 0)
		ok(t, "Seal", e)
		sent(t, "Take")(h.Take(1, r, random(1)))
		seq++
	}
	for b := range slices.Chunk(part, 256) {
		come(b)
	}
	ok(t, "Freeze", h.Freeze(1))
	list = written(t, d)
	if b := list[len(list)-1]; len(b) != 4096 || len(state(t, h, 1).Part) != n {
		t.Errorf("%d bytes", len(b))
	}
	recovered(t, d.Copy(), resumed(1))
	come([]byte{0})
	if e := h.Freeze(1); e != api.ErrArg {
		t.Errorf("%d", e)
	}
	hold(t, "Freeze", written(t, d), list...)
	once(t, "all", h.Seals())
	l.hear(t, sent(t, "Write")(h.Write(1, []byte("hi"))))
	recovered(t, d, aborted(1))
}
