package server_test

import (
	"strconv"
	"testing"

	"relay/api"
	"relay/hello"
	"relay/probe"
	"relay/record"
	"relay/server"
	"relay/sha"
)

// TestNew: P16.1.
func TestNew(t *testing.T) {
	if s := server.New(); !sameState(s, server.State{Phase: 0, Alert: -1}) {
		t.Errorf("%v", s)
	}
	phases := []int{server.Start, server.Retried, server.Wait, server.Open, server.Closed}
	for i, phase := range phases {
		if i != phase {
			t.Errorf("phase %d is %d", i, phase)
		}
	}
}

// TestAnswer: P16.1, P5; all bytes and the whole State, of many clients, chains and keys; the greeting in pieces, too.
func TestAnswer(t *testing.T) {
	for seed := range 40 {
		h := server.Host{Key: probe.Array(seed + 9)}
		for i := range 1 + seed%4 {
			h.Chain = append(h.Chain, probe.Bytes(1+(seed*37+i*299)%300, i))
		}
		c := newClient(seed)
		greeting := c.greeting(t, nil)
		want, did := answered(t, h, nil, greeting, c, random(1), -1)
		for _, n := range []int{256, 50, 1} {
			s, d := comes(t, server.New(), h, 22, greeting, n)
			is(t, "an answer", s, d, 0, want, did, 0)
		}
	}
}

// TestAnswerToLongChain: P16.1; texts of the flight go in records of 256 bytes.
func TestAnswerToLongChain(t *testing.T) {
	h := server.Host{Key: probe.Array(1), Chain: [][]byte{probe.Bytes(300, 1), probe.Bytes(300, 2), probe.Bytes(300, 3), probe.Bytes(300, 4)}}
	s, d := comes(t, server.New(), h, 22, newClient(1).greeting(t, nil), 256)
	all := contents(t, d)
	if len(all) != 7 || len(d.Seals) != 6 || s.OutEpoch != 2 || s.OutSeq != 0 {
		t.Fatalf("%d records, %d seals", len(all), len(d.Seals))
	}
	for i, seal := range d.Seals {
		if seal.Epoch != 1 || seal.Seq != i || seal.Secret != d.Seals[0].Secret || len(all[i+1].text) != 256 && i < 5 {
			t.Errorf("seal %d: %v, of %d bytes", i, seal, len(all[i+1].text))
		}
	}
	h.Chain = append(h.Chain, []byte{1})
	x, d, e := take(server.New(), h, 22, newClient(1).greeting(t, nil))
	alerts(t, "five certificates", server.New(), x, d, e, 40)
}

// TestRetry: P16.1; its bytes, the Log, and the answer to the second greeting.
func TestRetry(t *testing.T) {
	for seed := range 20 {
		c := newClient(seed)
		share := c.Shares
		c.Shares = []hello.Share{{Group: 0x17, Key: probe.Bytes(64, seed)}, {Group: 0x1e, Key: []byte{1}}}
		first := c.greeting(t, nil)
		s, d := comes(t, server.New(), host(), 22, first, 100)
		body := joined(probe.Hex("0303cf21ad74e59a6111be1d8c021e65b891c2a211167abb8c5e079e09e2c8a8339c"), []byte{byte(seed % 33)}, probe.Bytes(seed%33, seed),
			probe.Hex("130300"+"000c"+"002b00020304"+"00330002001d"))
		sum := sha.Sum(first)
		log := joined(laid(254, sum[:]), laid(2, body))
		is(t, "a retry", s, d, 0, server.State{Phase: 1, Log: log, Alert: -1}, server.Did{Send: plain(22, laid(2, body))}, 0)
		c.Shares = share
		second := c.greeting(t, log)
		want, did := answered(t, host(), log, second, c, random(1), -1)
		s, d = comes(t, s, host(), 22, second, 100)
		is(t, "behind a retry", s, d, 0, want, did, 0)
	}
}

// TestRetryIsAheadOfTickets: P16.1; a greeting without our share is retried, whatever else it lacks.
func TestRetryIsAheadOfTickets(t *testing.T) {
	c := newClient(1).offer(probe.Array(1), []byte("t"))
	c.Shares, c.Schemes, c.Modes, c.isBent = []hello.Share{{Group: 0x17, Key: []byte{1}}}, nil, nil, true
	if s, _ := comes(t, server.New(), host(), 22, c.greeting(t, nil), 256); s.Phase != server.Retried {
		t.Errorf("phase %d, alert %d", s.Phase, s.Alert)
	}
}

// fault is a greeting that calls for an alert; faults stand in the order in which they are looked for.
type fault struct {
	what  string
	alert int
	bend  func(c *client, h *server.Host)
}

func faults() []fault {
	return []fault{
		{"no chain", 40, func(c *client, h *server.Host) { h.Chain = nil }},
		{"an empty certificate", 40, func(c *client, h *server.Host) { h.Chain = [][]byte{{1}, {}} }},
		{"a long certificate", 40, func(c *client, h *server.Host) { h.Chain = [][]byte{make([]byte, 301)} }},
		{"no Versions", 70, func(c *client, h *server.Host) { c.Versions = nil }},
		{"other Versions", 70, func(c *client, h *server.Host) { c.Versions = []int{0x0303, 0x0305} }},
		{"other Suites", 40, func(c *client, h *server.Host) { c.Suites = []int{0x1301, 0x1302} }},
		{"no Groups", 109, func(c *client, h *server.Host) { c.Groups = nil }},
		{"no Shares", 109, func(c *client, h *server.Host) { c.Shares = nil }},
		{"other Groups", 40, func(c *client, h *server.Host) { c.Groups = []int{0x17} }},
		{"a short share", 47, func(c *client, h *server.Host) { c.Shares = []hello.Share{{Group: 0x1d, Key: make([]byte, 31)}} }},
		{"a long share", 47, func(c *client, h *server.Host) { c.Shares = []hello.Share{{Group: 0x1d, Key: probe.Bytes(33, 1)}} }},
		{"a nought share", 47, func(c *client, h *server.Host) { c.Shares = []hello.Share{{Group: 0x1d, Key: make([]byte, 32)}} }},
		{"a share of 1", 47, func(c *client, h *server.Host) {
			c.Shares = []hello.Share{{Group: 0x17, Key: []byte{1}}, {Group: 0x1d, Key: append([]byte{1}, make([]byte, 31)...)}}
		}},
		{"no Modes", 109, func(c *client, h *server.Host) { *c = c.offer(probe.Array(8), []byte("t")); c.Modes = nil }},
		{"a wrong binder", 51, func(c *client, h *server.Host) {
			*c = c.offer(probe.Array(8), []byte("t"))
			c.isBent, h.Tickets = true, []server.Known{{Ticket: []byte("t"), Psk: probe.Array(8)}}
		}},
		{"a binder of another secret", 51, func(c *client, h *server.Host) {
			*c = c.offer(probe.Array(8), []byte("t"))
			h.Tickets = []server.Known{{Ticket: []byte("t"), Psk: probe.Array(7)}}
		}},
		{"no Schemes", 109, func(c *client, h *server.Host) { c.Schemes = nil }},
		{"other Schemes", 40, func(c *client, h *server.Host) { c.Schemes = []int{0x0403} }},
	}
}

// TestFaults: P16.1; each fault in Start and in Retried, and nothing is retried.
func TestFaults(t *testing.T) {
	again := retried(t, host(), 1)
	for _, x := range faults() {
		for _, s := range []server.State{server.New(), again} {
			c, h := newClient(1), host()
			x.bend(&c, &h)
			next, d, e := take(s, h, 22, c.greeting(t, s.Log))
			alerts(t, x.what, s, next, d, e, x.alert)
		}
	}
	c := newClient(1)
	c.Shares = []hello.Share{{Group: 0x17, Key: probe.Bytes(32, 1)}}
	next, d, e := take(again, host(), 22, c.greeting(t, again.Log))
	alerts(t, "a second retry", again, next, d, e, 47)
}

// TestFirstFaultCounts: P16.1; of each two, the one that is looked for first.
func TestFirstFaultCounts(t *testing.T) {
	all := faults()
	for i, first := range all {
		for _, second := range all[i+1:] {
			c, h := newClient(1), host()
			second.bend(&c, &h)
			first.bend(&c, &h)
			next, d, e := take(server.New(), h, 22, c.greeting(t, nil))
			alerts(t, first.what+" and "+second.what, server.New(), next, d, e, first.alert)
		}
	}
}

// TestBytesThatAreNoGreeting: P16.1; a chain that can't be put is ahead of them.
func TestBytesThatAreNoGreeting(t *testing.T) {
	whole := newClient(1).greeting(t, nil)[4:]
	for _, body := range [][]byte{nil, {0}, whole[:10], whole[:len(whole)-1], append(whole, 0), append([]byte{3, 4}, whole[2:]...)} {
		s, d, e := take(server.New(), host(), 22, laid(1, body))
		alerts(t, "no greeting", server.New(), s, d, e, 50)
		s, d, e = take(server.New(), server.Host{}, 22, laid(1, body))
		alerts(t, "no greeting, no chain", server.New(), s, d, e, 40)
	}
}

// TestTheFirstShareCounts: P16.1.
func TestTheFirstShareCounts(t *testing.T) {
	c := newClient(1)
	c.Shares = append([]hello.Share{{Group: 0x17, Key: []byte{1}}}, append(c.Shares, hello.Share{Group: 0x1d, Key: []byte{1}})...)
	greeting := c.greeting(t, nil)
	want, did := answered(t, host(), nil, greeting, c, random(1), -1)
	s, d := comes(t, server.New(), host(), 22, greeting, 256)
	is(t, "two shares", s, d, 0, want, did, 0)
}

// TestTickets: P16.1; the first of Ids that is known is taken, with a binder of its own secret, also behind a retry.
func TestTickets(t *testing.T) {
	h := host()
	for i := range 5 {
		h.Tickets = append(h.Tickets, server.Known{Ticket: []byte{byte('a' + i), 1}, Psk: probe.Array(i)})
	}
	h.Tickets = append(h.Tickets, server.Known{Ticket: []byte{'c', 1}, Psk: probe.Array(99)}, server.Known{})
	again := retried(t, host(), 1)
	for _, x := range []struct {
		ids   []string
		psk   int
		place int
	}{
		{[]string{"a\x01"}, 0, 0},
		{[]string{"e\x01"}, 4, 0},
		{[]string{"c\x01"}, 2, 0},
		{[]string{"b\x01", "a\x01"}, 1, 0},
		{[]string{"x", "a\x01x", "d\x01"}, 3, 2},
		{[]string{"x", "d\x01", "y", "a\x01"}, 3, 1},
		{[]string{"x"}, 0, -1},
		{[]string{"x", "a", "\x01", "a\x01\x00"}, 0, -1},
	} {
		c := newClient(3)
		c.Modes = []byte{0, 1}
		if x.place >= 0 {
			c.Schemes = nil
		}
		var ids [][]byte
		for _, id := range x.ids {
			ids = append(ids, []byte(id))
		}
		c = c.offer(probe.Array(x.psk), ids...)
		for _, s := range []server.State{server.New(), again} {
			greeting := c.greeting(t, s.Log)
			want, did := answered(t, h, s.Log, greeting, c, random(1), x.place)
			next, d := comes(t, s, h, 22, greeting, 100)
			is(t, "tickets "+strconv.Quote(x.ids[0]), next, d, 0, want, did, 0)
		}
	}
}

// TestTicketsWithoutOurMode: P16.1; then none is looked at, its binder neither.
func TestTicketsWithoutOurMode(t *testing.T) {
	h := host()
	h.Tickets = []server.Known{{Ticket: []byte("t"), Psk: probe.Array(1)}}
	c := newClient(3).offer(probe.Array(1), []byte("t"))
	c.Modes, c.isBent = []byte{0, 2, 255}, true
	greeting := c.greeting(t, nil)
	want, did := answered(t, h, nil, greeting, c, random(1), -1)
	s, d := comes(t, server.New(), h, 22, greeting, 100)
	is(t, "another mode", s, d, 0, want, did, 0)
	c.Schemes = nil
	s, d, e := take(server.New(), h, 22, c.greeting(t, nil))
	alerts(t, "another mode, no schemes", server.New(), s, d, e, 109)
}

// TestModesAreOfTickets: P16.1; without a ticket none are asked for.
func TestModesAreOfTickets(t *testing.T) {
	c := newClient(3)
	c.Modes = nil
	greeting := c.greeting(t, nil)
	want, did := answered(t, host(), nil, greeting, c, random(1), -1)
	s, d := comes(t, server.New(), host(), 22, greeting, 100)
	is(t, "no modes", s, d, 0, want, did, 0)
}

// TestOnlyTheBinderThatCounts: P16.1; of a ticket that isn't taken it isn't looked at.
func TestOnlyTheBinderThatCounts(t *testing.T) {
	h := host()
	h.Tickets = []server.Known{{Ticket: []byte("t"), Psk: probe.Array(1)}}
	c := newClient(3).offer(probe.Array(1), []byte("x"), []byte("t"))
	greeting := c.greeting(t, nil)
	for i := range 64 {
		bent := append([]byte{}, greeting...)
		at := len(bent) - 66 + i/32*33 + 1 + i%32
		bent[at] ^= 4
		s, d, e := take(server.New(), h, 22, bent)
		if i < 32 {
			want, did := answered(t, h, nil, bent, c, random(1), 1)
			is(t, "another's binder", s, d, e, want, did, 0)
			continue
		}
		alerts(t, "a bent binder", server.New(), s, d, e, 51)
	}
}

// TestRandomCounts: P16.1; the first 32 bytes are seen, of the other ones only their public; a ServerHello by which it would be a retry can't be put.
func TestRandomCounts(t *testing.T) {
	c := newClient(1)
	greeting := c.greeting(t, nil)
	for seed := range 10 {
		want, did := answered(t, host(), nil, greeting, c, random(seed), -1)
		s, d, e := server.Take(server.New(), host(), free(3), 22, greeting, random(seed))
		is(t, "other random bytes", s, d, e, want, did, 0)
	}
	var bad [64]byte
	copy(bad[:], probe.Hex("cf21ad74e59a6111be1d8c021e65b891c2a211167abb8c5e079e09e2c8a8339c"))
	s, d, e := server.Take(server.New(), host(), free(3), 22, greeting, bad)
	is(t, "a retry's random bytes", s, d, e, server.New(), server.Did{}, api.ErrArg)
	bad[0]++
	if s, _, e := server.Take(server.New(), host(), free(3), 22, greeting, bad); e != api.OK || s.Phase != server.Wait {
		t.Errorf("%d, phase %d", e, s.Phase)
	}
}

// TestOtherMessagesAtFirst: P16.1, in Start and Retried.
func TestOtherMessagesAtFirst(t *testing.T) {
	for _, s := range []server.State{server.New(), retried(t, host(), 1)} {
		for kind := range 256 {
			if kind == 1 {
				continue
			}
			x, d, e := take(s, host(), record.Handshake, laid(kind, newClient(1).greeting(t, nil)[4:]))
			alerts(t, "another message", s, x, d, e, 10)
		}
		x, d, e := take(s, host(), record.Handshake, append(newClient(1).greeting(t, s.Log), 0))
		alerts(t, "a byte behind", s, x, d, e, 10)
		x, d, e = take(s, server.Host{}, record.Handshake, append(newClient(1).greeting(t, s.Log), 0))
		alerts(t, "a byte behind, and no chain", s, x, d, e, 10)
	}
}
