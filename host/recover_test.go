package host_test

import (
	"bytes"
	"slices"
	"testing"

	"relay/api"
	"relay/disk"
	"relay/host"
	"relay/peer"
	"relay/probe"
	"relay/server"
	"relay/sha"
	"relay/snap"
	"relay/vault"
)

// TestFound: P21.4; whoever was frozen, and sealed nothing behind, is resumed, in whatever phase; others are aborted; whoever ended isn't found.
func TestFound(t *testing.T) {
	h, d := begun(t, 512)
	l, b := greeted(t, h, 300, plan())
	sent(t, "Take")(h.Take(300, b[:9], random(1)))
	ok(t, "Freeze", h.Freeze(300)) // in the middle of a record
	opened(t, h, 7, plan())
	ok(t, "Freeze", h.Freeze(7))
	m := opened(t, h, 2, plan())
	ok(t, "Freeze", h.Freeze(2))
	sent(t, "Write")(h.Write(2, []byte("hi")))
	sent(t, "Take")(h.Take(2, m.say(t, "hi"), random(1)))
	ok(t, "Accept", h.Accept(65535))
	sent(t, "Close")(h.Close(65535))
	ok(t, "Accept", h.Accept(65534)) // without a snapshot
	old, seven := state(t, h, 300), state(t, h, 7)
	list := written(t, d)
	h = recovered(t, d, aborted(2), resumed(7), resumed(300), aborted(65534))
	hold(t, "Recover", written(t, d), append(list, []byte{5, 0, 2}, []byte{5, 255, 254})...)
	list = written(t, d)
	writes := d.Writes()
	for range 3 {
		if !same(state(t, h, 300), old) || !same(state(t, h, 7), seven) || !slices.Equal(h.Conns(), []int{7, 300}) || len(h.Seals()) > 0 {
			t.Errorf("%v live, by other States", h.Conns())
		}
		h = recovered(t, d, resumed(7), resumed(300))
	}
	hold(t, "Recover again", written(t, d), list...)
	if d.Writes() != writes {
		t.Error("Recover again writes")
	}
	l.hear(t, sent(t, "Take")(h.Take(300, b[9:], random(1))))
	if l.p.Phase != peer.Open {
		t.Errorf("phase %d", l.p.Phase)
	}
	h = recovered(t, d, resumed(7), aborted(300))
	h = recovered(t, d, resumed(7))
	for _, conn := range []int{2, 7, 300, 65534, 65535} {
		if e := h.Accept(conn); e != api.ErrKnown {
			t.Errorf("Accept of %d: %d", conn, e)
		}
	}
}

// TestReservedIsEnough: P21.4; also where nothing was sealed by it: power goes between.
func TestReservedIsEnough(t *testing.T) {
	h, d := begun(t, 300)
	opened(t, h, 1, plan())
	ok(t, "Freeze", h.Freeze(1))
	seals := len(h.Seals())
	d.Fail(1, 0)
	if _, e := h.Write(1, probe.Bytes(9*256, 1)); e != api.ErrStop || len(h.Seals()) != seals {
		t.Error(e)
	}
	d.Up()
	recovered(t, d, aborted(1))
}

// TestLastSnapshot: P21.4; of several the last one counts, and what is done behind it without a seal is forgotten.
func TestLastSnapshot(t *testing.T) {
	h, d := begun(t, 500)
	l := opened(t, h, 1, plan())
	for i := range 4 {
		ok(t, "Freeze", h.Freeze(1))
		sent(t, "Write")(h.Write(1, []byte{byte(i)}))
	}
	ok(t, "Freeze", h.Freeze(1))
	s := state(t, h, 1)
	sent(t, "Take")(h.Take(1, joined(l.say(t, "hi"), l.turn(t, false)), random(1)))
	if same(state(t, h, 1), s) {
		t.Error("nothing is done")
	}
	h = recovered(t, d, resumed(1))
	if !same(state(t, h, 1), s) {
		t.Error("another State")
	}
}

// TestCountsGoOn: P21.1, P21.2; behind all that were reserved; generations behind the last one's.
func TestCountsGoOn(t *testing.T) {
	h, d := begun(t, 512)
	ok(t, "Accept", h.Accept(1))
	count, until := 0, 0
	for i, n := range []int{3, 0, 1, 8, 9, 0, 0, 2} {
		for range n {
			if count == until {
				until += 8
			}
			ok(t, "Freeze", h.Freeze(1))
			if s := h.Seals(); s[len(s)-1] != countOf(count) {
				t.Errorf("Host %d: %v, not count %d", i, s[len(s)-1], count)
			}
			count++
		}
		h = recovered(t, d, resumed(1))
		count = until
	}
	generation := 0
	for _, b := range written(t, d) {
		if b[0] != 3 {
			continue
		}
		generation++
		if n, _, e := vault.Open(vaultKey(), b[3:]); n.Generation != generation || n.Conn != 1 || e != api.OK {
			t.Errorf("%v, %d, not generation %d", n, e, generation)
		}
	}
	if generation != 23 {
		t.Errorf("%d snapshots", generation)
	}
}

// TestBeginOnAnother: P21.1, P21.2; on a disk that another Host left nobody is found, no ticket is good, but no count is used again: whenever power goes.
func TestBeginOnAnother(t *testing.T) {
	for writes := -1; writes < 60; writes++ {
		h, d := begun(t, 40)
		ok(t, "Accept", h.Accept(1))
		for range 3 {
			ok(t, "Freeze", h.Freeze(1))
		}
		done := h.Seals()
		d.Fail(writes, writes%64)
		h, e := host.Begin(d, key, chain)
		if e != api.OK {
			if e != api.ErrStop || h != nil || writes < 0 {
				t.Fatalf("power goes in write %d: %d", writes, e)
			}
			d.Up()
			h, _, e = host.Recover(d, key, chain)
			ok(t, "Recover", e)
			if len(h.Conns()) == 1 {
				ok(t, "Freeze", h.Freeze(1))
			}
			done = append(done, h.Seals()...)
		}
		d.Up()
		for range 2 {
			h, e = host.Begin(d, key, chain)
			ok(t, "Begin", e)
			if len(h.Conns())+len(h.Seals()) > 0 {
				t.Errorf("%v live", h.Conns())
			}
			ok(t, "Accept", h.Accept(1))
			ok(t, "Freeze", h.Freeze(1))
			done = append(done, h.Seals()...)
		}
		once(t, "all Hosts", done)
	}
}

// TestBeginOnOthersEntries: P21.1; what can't be read tells of no counts.
func TestBeginOnOthersEntries(t *testing.T) {
	for _, c := range []struct{ list, want [][]byte }{
		{[][]byte{{2, 0, 0, 0, 1}}, [][]byte{{2, 0, 0, 0, 1}}}, {[][]byte{{2, 0, 0, 0, 0}}, nil},
		{[][]byte{{2, 0, 0, 0, 9, 9}, {2, 0, 0, 9}, {4, 0, 1}, []byte("another's")}, nil},
		{[][]byte{[]byte("another's"), {2, 0, 0, 1, 9}, {2, 0, 0, 0, 8}, {4, 0, 1}}, [][]byte{{2, 0, 0, 1, 9}}},
	} {
		d := laid(t, 100, c.list...)
		h, e := host.Begin(d, key, chain)
		ok(t, "Begin", e)
		hold(t, "Begin", written(t, d), c.want...)
		ok(t, "Accept", h.Accept(1))
		ok(t, "Freeze", h.Freeze(1))
		want := 0
		if len(c.want) > 0 {
			want = int(c.want[0][3])<<8 | int(c.want[0][4])
		}
		if s := h.Seals(); len(s) != 1 || s[0] != countOf(want) {
			t.Errorf("%x: %v, not count %d", c.list, s, want)
		}
	}
}

// TestTicketsAreFound: P21.1; those that may be used, and the next number, behind Recover.
func TestTicketsAreFound(t *testing.T) {
	h, d := begun(t, 512)
	l := opened(t, h, 1, plan())
	for range 10 {
		l.hear(t, sent(t, "Give")(h.Give(1)))
	}
	ok(t, "Freeze", h.Freeze(1))
	h = recovered(t, d, resumed(1))
	l.hear(t, sent(t, "Give")(h.Give(1)))
	for i, n := range l.p.Tickets {
		if !bytes.Equal(n.Ticket[:4], []byte{0, 0, 0, byte(i)}) {
			t.Errorf("ticket %d: %x", i, n.Ticket)
		}
	}
	good := map[int]int{0: 0, 2: 0, 3: 1, 7: 1, 10: 1}
	conn := 10
	for i := range 11 {
		if _, ok := good[i]; !ok {
			continue
		}
		for again := range 2 {
			h, _, _ = host.Recover(d, key, chain)
			n := l.p.Tickets[i]
			m := opened(t, h, conn, peer.Plan{Key: key, Share: true, Ticket: n.Ticket, Psk: n.Psk})
			if want := good[i] == 1 && again == 0; m.p.Resumed != want {
				t.Errorf("ticket %d, time %d: %v", i, again, m.p.Resumed)
			}
			sent(t, "Close")(h.Close(conn))
			conn++
		}
	}
}

// TestNextTicketStays: P21.1; where the last ticket was used up, and the journal is compacted, its number isn't minted again.
func TestNextTicketStays(t *testing.T) {
	h, d := begun(t, 34)
	l := opened(t, h, 1, plan())
	for range 2 {
		l.hear(t, sent(t, "Give")(h.Give(1)))
	}
	opened(t, h, 2, l.ticketed())
	sent(t, "Close")(h.Close(2))
	compact(t, h, d)
	list := written(t, d)
	if n := len(slices.DeleteFunc(list, func(b []byte) bool { return b[0] != 6 && b[0] != 7 })); n != 3 {
		t.Errorf("%d entries of tickets are kept", n)
	}
	h = recovered(t, d, aborted(1))
	l = opened(t, h, 3, plan())
	l.hear(t, sent(t, "Give")(h.Give(3)))
	if b := l.p.Tickets[0].Ticket; !bytes.Equal(b[:4], []byte{0, 0, 0, 2}) {
		t.Errorf("%x", b)
	}
}

// compact has connections come and go till the journal is compacted.
func compact(t *testing.T, h *host.Host, d *disk.Disk) {
	t.Helper()
	for conn := 1000; ; conn++ {
		free := room(t, d)
		ok(t, "Accept", h.Accept(conn))
		sent(t, "Close")(h.Close(conn))
		if room(t, d) > free-2 {
			return
		}
	}
}

// TestWrongEntries: P21.1; each kind's bytes, one too few, one too many; kinds that are none.
func TestWrongEntries(t *testing.T) {
	good := [][]byte{
		{1, 0, 9, 0, 2, 8}, {2, 0, 0, 0, 8}, {4, 0, 9}, {5, 0, 9}, joined([]byte{6, 0, 0, 0, 0}, probe.Bytes(32, 1)), {7, 0, 0, 0, 0},
		joined([]byte{3, 0, 9}, snapshot(t, server.New(), vault.Note{Count: 0, Conn: 9, Generation: 1}, nil)),
	}
	refuse := func(what string, list ...[]byte) {
		t.Helper()
		d := laid(t, 300, list...)
		h, found, e := host.Recover(d, key, chain)
		if h != nil || len(found) > 0 || e != api.ErrForm {
			t.Errorf("%s: %v, %v, %d", what, h, found, e)
		}
		hold(t, what, written(t, d), list...)
	}
	for _, b := range good {
		if _, _, e := host.Recover(laid(t, 300, b), key, chain); e != api.OK {
			t.Errorf("%x: %d", b, e)
		}
		for n := 1; n < len(b); n++ {
			refuse("too few bytes", b[:n])
			refuse("too few bytes, behind others", []byte{4, 0, 9}, b[:n], []byte{5, 0, 9})
		}
		refuse("a byte too many", append(bytes.Clone(b), 0))
	}
	for kind := range 256 {
		if kind == 0 || kind > 7 {
			for _, n := range []int{0, 2, 4, 5, 36} {
				refuse("another kind", append([]byte{byte(kind)}, make([]byte, n)...))
			}
		}
	}
}

// TestWrongSnapshots: P21.1; one that doesn't open, or is none, or another connection's: also one that wouldn't count, and one of a connection that ended.
func TestWrongSnapshots(t *testing.T) {
	note := vault.Note{Count: 3, Conn: 9, Generation: 1}
	good := snapshot(t, server.New(), note, []byte{22, 3})
	seal := func(key [32]byte, n vault.Note, text ...[]byte) []byte {
		b, e := vault.Seal(key, n, joined(text...))
		ok(t, "vault.Seal", e)
		return b
	}
	text, e := snap.Put(server.New(), 3)
	ok(t, "snap.Put", e)
	bad := map[string][]byte{
		"another key": seal(key, note, []byte{0, 0}, text), "no snapshot": seal(vaultKey(), note, []byte{0, 0}),
		"no byte": seal(vaultKey(), note), "too few bytes": seal(vaultKey(), note, []byte{0, 3, 1, 2}),
		"without what is left": seal(vaultKey(), note, text), "a byte too many": seal(vaultKey(), note, []byte{0, 0}, text, []byte{0}),
		"a byte too few":     seal(vaultKey(), note, []byte{0, 0}, text[:len(text)-1]),
		"another connection": snapshot(t, server.New(), vault.Note{Count: 3, Conn: 10, Generation: 1}, nil),
		"an unknown version": seal(vaultKey(), note, []byte{0, 0, 4}, text[1:]),
	}
	for i := range good {
		b := bytes.Clone(good)
		b[i] ^= 1
		bad["bent"+string(rune('A'+i))] = b
	}
	behind := []byte{3, 0, 9}
	for what, b := range bad {
		for _, list := range [][][]byte{
			{{4, 0, 9}, joined(behind, b)}, {{4, 0, 9}, joined(behind, b), joined(behind, good)},
			{{4, 0, 9}, joined(behind, good), joined(behind, b)}, {{4, 0, 9}, joined(behind, b), {5, 0, 9}},
		} {
			if h, found, e := host.Recover(laid(t, 300, list...), key, chain); h != nil || len(found) > 0 || e != api.ErrForm {
				t.Errorf("%s: %v, %d", what, found, e)
			}
		}
	}
	h := recovered(t, laid(t, 300, []byte{4, 0, 9}, joined(behind, good)), resumed(9))
	if !same(state(t, h, 9), server.New()) {
		t.Error("another State")
	}
	_, list, e := host.Recover(laid(t, 300, []byte{4, 0, 9}, joined(behind, good)), probe.Array(77), chain)
	if e != api.ErrForm || len(list) > 0 {
		t.Errorf("another host's key: %v, %d", list, e)
	}
}

// TestOlderVersions: P21.1; a snapshot of whatever version is read.
func TestOlderVersions(t *testing.T) {
	h, _ := begun(t, 300)
	opened(t, h, 1, plan())
	s := state(t, h, 1)
	for version := snap.Oldest; version <= snap.Newest; version++ {
		b, e := snap.Put(s, version)
		ok(t, "snap.Put", e)
		b, e = vault.Seal(vaultKey(), vault.Note{Count: 1, Conn: 1, Generation: 5}, joined([]byte{0, 1, 23}, b))
		ok(t, "vault.Seal", e)
		d := laid(t, 300, []byte{4, 0, 1}, joined([]byte{3, 0, 1}, b))
		h := recovered(t, d, resumed(1))
		if !same(state(t, h, 1), s) {
			t.Errorf("version %d: another State", version)
		}
		ok(t, "Freeze", h.Freeze(1))
		list := written(t, d)
		hold(t, "Freeze", list[2:], []byte{2, 0, 0, 0, 8}, joined([]byte{3, 0, 1}, snapshot(t, s, vault.Note{Count: 0, Conn: 1, Generation: 6}, []byte{23})))
	}
}

// TestOddEntries: P21.1; entries that can be read, though no Host would leave them so.
func TestOddEntries(t *testing.T) {
	secret := probe.Bytes(32, 3)
	for what, list := range map[string][][]byte{
		"a ticket twice":         {joined([]byte{6, 0, 0, 0, 3}, secret), joined([]byte{6, 0, 0, 0, 3}, secret)},
		"tickets that fall":      {joined([]byte{6, 0, 0, 0, 3}, secret), {7, 0, 0, 0, 3}, joined([]byte{6, 0, 0, 0, 2}, secret)},
		"a ticket too great":     {joined([]byte{6, 127, 255, 255, 255}, secret)},
		"a ticket far too great": {joined([]byte{6, 128, 0, 0, 0}, secret)},
	} {
		if h, found, e := host.Recover(laid(t, 300, list...), key, chain); h != nil || len(found) > 0 || e != api.ErrForm {
			t.Errorf("%s: %v, %d", what, found, e)
		}
	}
	for what, list := range map[string][][]byte{
		"none":                        nil,
		"an end without a beginning":  {{5, 0, 9}},
		"numbers without a beginning": {{1, 0, 9, 0, 1, 8}},
		"a ticket used without one":   {{7, 0, 0, 0, 9}, {7, 255, 255, 255, 255}},
		"used twice":                  {joined([]byte{6, 0, 0, 0, 3}, secret), {7, 0, 0, 0, 3}, {7, 0, 0, 0, 3}},
	} {
		h := recovered(t, laid(t, 300, list...))
		if len(h.Conns()) > 0 {
			t.Errorf("%s: %v live", what, h.Conns())
		}
	}
	h := recovered(t, laid(t, 300, []byte{5, 0, 9}))
	if e := h.Accept(9); e != api.ErrKnown {
		t.Errorf("Accept: %d", e)
	}
	psk := joined([]byte{6, 0, 0, 0, 4}, probe.Bytes(32, 8))
	d := laid(t, 300, joined([]byte{6, 0, 0, 0, 3}, secret), psk, []byte{7, 0, 0, 0, 3}, []byte{7, 0, 0, 0, 3}, []byte{7, 0, 0, 0, 9})
	mac := ticketKey()
	tag := sha.Mac(mac[:], psk[1:5])
	m := opened(t, recovered(t, d), 1, peer.Plan{Key: key, Share: true, Ticket: joined(psk[1:5], tag[:12]), Psk: [32]byte(psk[5:])})
	if !m.p.Resumed {
		t.Error("the other ticket is lost")
	}
}

// TestCountsEnd: P21.1; the vault's last number, and none behind; nothing is written then that Recover couldn't read.
func TestCountsEnd(t *testing.T) {
	for _, c := range []struct {
		counted []byte
		good    int
	}{{[]byte{2, 127, 255, 255, 254}, 2}, {[]byte{2, 127, 255, 255, 255}, 1}, {[]byte{2, 128, 0, 0, 0}, 0}, {[]byte{2, 255, 255, 255, 255}, 0}} {
		d := laid(t, 300, c.counted)
		h := recovered(t, d)
		ok(t, "Accept", h.Accept(1))
		for i := range 5 {
			list := written(t, d)
			e := h.Freeze(1)
			if want := i < c.good; (e == api.OK) != want || !want && e != api.ErrArg || len(h.Seals()) != min(i+1, c.good) {
				t.Errorf("%x: snapshot %d: %d", c.counted, i, e)
			}
			if e != api.OK {
				hold(t, "Freeze", written(t, d), list...)
			}
		}
		once(t, "counts", h.Seals())
		if c.good > 0 {
			recovered(t, d, resumed(1))
		} else {
			recovered(t, d, aborted(1))
		}
	}
}

// TestGenerationsEnd: P21.1.
func TestGenerationsEnd(t *testing.T) {
	for generation, want := range map[int]api.Errno{1<<31 - 2: api.OK, 1<<31 - 1: api.ErrArg} {
		d := laid(t, 300, []byte{4, 0, 9}, joined([]byte{3, 0, 9}, snapshot(t, server.New(), vault.Note{Conn: 9, Generation: generation}, nil)))
		h := recovered(t, d, resumed(9))
		if e := h.Freeze(9); e != want {
			t.Errorf("generation %d: %d", generation, e)
		}
		recovered(t, d, resumed(9))
	}
}

// TestTicketsEnd: P21.1; the last number that can be minted, and none behind.
func TestTicketsEnd(t *testing.T) {
	d := laid(t, 300, joined([]byte{6, 127, 255, 255, 253}, probe.Bytes(32, 1)))
	h := recovered(t, d)
	l := opened(t, h, 1, plan())
	l.hear(t, sent(t, "Give")(h.Give(1)))
	if b := l.p.Tickets[0].Ticket; !bytes.Equal(b[:4], []byte{127, 255, 255, 254}) {
		t.Errorf("%x", b)
	}
	list, seals := written(t, d), len(h.Seals())
	if o, e := h.Give(1); e != api.ErrFull || len(o.Send) > 0 || len(h.Seals()) != seals {
		t.Errorf("%v, %d", o, e)
	}
	hold(t, "Give", written(t, d), list...)
	l.hear(t, sent(t, "Write")(h.Write(1, []byte("hi"))))
	recovered(t, d, aborted(1))
}

// TestEpochsEnd: P21.1; an epoch that has no room in an entry: its numbers can't be reserved, and nothing is written that Recover couldn't read.
func TestEpochsEnd(t *testing.T) {
	s := server.New()
	s.Phase, s.OutEpoch, s.InEpoch, s.Sealed, s.Out, s.In = server.Open, 65535, 3, true, probe.Array(1), probe.Array(2)
	d := laid(t, 300, []byte{4, 0, 9}, joined([]byte{3, 0, 9}, snapshot(t, s, vault.Note{Conn: 9, Generation: 1}, nil)))
	h := recovered(t, d, resumed(9))
	sent(t, "Write")(h.Write(9, []byte("hi")))
	sent(t, "Update")(h.Update(9, false))
	list, seals := written(t, d), len(h.Seals())
	if list[2] = list[2][:4]; !bytes.Equal(list[2], []byte{1, 0, 9, 255}) {
		t.Errorf("%x", list[2])
	}
	for what, step := range steps(h, 9) {
		if what == "Take" || what == "no byte" || what == "Freeze" {
			continue
		}
		if o, e := step(); e != api.ErrFull || len(o.Send) > 0 || len(h.Seals()) != seals {
			t.Errorf("%s: %v, %d", what, o, e)
		}
	}
	if e := h.Freeze(9); e != api.ErrArg {
		t.Errorf("Freeze: %d", e)
	}
	if n := len(written(t, d)); n != len(list) {
		t.Errorf("%d entries, not %d", n, len(list))
	}
	recovered(t, d, aborted(9))
}

// TestNumbersEnd: P21.1; number 64 is wanted: server's ErrEnd, by which it closes, and it is written that it ended.
func TestNumbersEnd(t *testing.T) {
	for _, what := range []string{"Write", "Update", "Give", "Close", "Take"} {
		s := server.New()
		s.Phase, s.OutEpoch, s.OutSeq, s.InEpoch, s.Sealed = server.Open, 2, 64, 2, true
		d := laid(t, 300, []byte{4, 0, 9}, joined([]byte{3, 0, 9}, snapshot(t, s, vault.Note{Conn: 9, Generation: 1}, nil)))
		h := recovered(t, d, resumed(9))
		all := steps(h, 9)
		all["Take"] = func() (host.Out, api.Errno) { return h.Take(9, []byte{0}, random(1)) }
		o, e := all[what]()
		if e != api.ErrEnd || len(o.Send)+len(o.Data) > 0 || len(h.Conns()) > 0 || len(h.Seals()) > 0 {
			t.Errorf("%s: %v, %d", what, o, e)
		}
		if list := written(t, d); !bytes.Equal(list[len(list)-1], []byte{5, 0, 9}) || len(list) != 3 {
			t.Errorf("%s: %x", what, list)
		}
	}
}
