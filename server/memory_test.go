package server_test

import (
	"math"
	"reflect"
	"slices"
	"testing"

	"relay/api"
	"relay/probe"
	"relay/record"
	"relay/schedule"
	"relay/server"
)

// clone is s in memory of its own.
func clone(s server.State) server.State {
	s.Log, s.Part, s.Used = slices.Clone(s.Log), slices.Clone(s.Part), slices.Clone(s.Used)
	return s
}

// lent is a State whose lists are lent, with what they were.
type lent struct {
	s     server.State
	lists []probe.Lent
}

func lend(s server.State) lent {
	l := lent{s: s}
	for _, list := range []*[]byte{&l.s.Log, &l.s.Part, &l.s.Used} {
		one := probe.Lend(*list)
		*list = one.Bytes()
		l.lists = append(l.lists, one)
	}
	return l
}

func (l lent) kept() bool {
	return !slices.ContainsFunc(l.lists, func(x probe.Lent) bool { return !x.Kept() })
}

func (l lent) spoil() {
	for _, x := range l.lists {
		x.Spoil()
	}
}

// ownMemory: are all lists of an answer as they must be, also when those ahead of each are spoiled?
func ownMemory(t *testing.T, what string, s server.State, d server.Did, want server.State, wantDid server.Did) {
	t.Helper()
	is(t, what, s, d, 0, want, wantDid, 0)
	lists := [][]byte{s.Log, s.Part, s.Used, d.Send, d.Data, d.Used}
	wants := [][]byte{want.Log, want.Part, want.Used, wantDid.Send, wantDid.Data, wantDid.Used}
	for i := range lists {
		if !slices.Equal(lists[i], wants[i]) {
			t.Errorf("%s: list %d shares memory with one ahead", what, i)
		}
		probe.Spoil(lists[i])
	}
}

// asked is a call of a State.
type asked struct {
	what string
	s    server.State
	do   func(s server.State) (server.State, server.Did, api.Errno)
}

// askAll are calls that answer all kinds of lists, with a Host and bytes that are lent.
func askAll(t *testing.T, h server.Host, until []int, bytes func(b []byte) []byte) []asked {
	t.Helper()
	come := func(s server.State, kind int, b []byte) func(server.State) (server.State, server.Did, api.Errno) {
		if s.Sealed {
			kind, b = record.Data, body(sealed(s.In, s.InSeq, kind, b))
		}
		return func(s server.State) (server.State, server.Did, api.Errno) {
			return server.Take(s, h, until, kind, bytes(b), random(1))
		}
	}
	c := newClient(40).offer(probe.Array(3), []byte("ticket"))
	first, _, _ := server.Take(server.New(), h, free(9), 22, c.greeting(t, nil), random(1))
	open, _ := comes(t, first, h, 22, finished(first), 256)
	part, _ := comes(t, open, h, 22, []byte{24, 0}, 256)
	start := server.New()
	start.Part = c.greeting(t, nil)[:50]
	return []asked{
		{"a greeting", start, come(start, 22, c.greeting(t, nil)[50:])},
		{"Finished", first, come(first, 22, finished(first))},
		{"a part", part, come(part, 22, []byte{0})},
		{"an update", part, come(part, 22, []byte{0, 1, 1})},
		{"data", open, come(open, 23, []byte("text"))},
		{"a fault", part, come(part, 23, []byte("text"))},
		{"an alert", open, come(open, 21, []byte{2, 9})},
		{"Write", part, func(s server.State) (server.State, server.Did, api.Errno) {
			return server.Write(s, until, bytes(probe.Bytes(300, 1)))
		}},
		{"Update", part, func(s server.State) (server.State, server.Did, api.Errno) { return server.Update(s, until, true) }},
		{"Give", part, func(s server.State) (server.State, server.Did, api.Errno) {
			x, d, _, e := server.Give(s, until, 1, 2, bytes([]byte{1, 2}), bytes([]byte("next")))
			return x, d, e
		}},
		{"Close", part, func(s server.State) (server.State, server.Did, api.Errno) { return server.Close(s, until) }},
	}
}

// lentHost is a Host with certificates and a ticket, all lent.
func lentHost() (server.Host, []probe.Lent) {
	all := []probe.Lent{probe.Lend(probe.Bytes(99, 1)), probe.Lend([]byte{7}), probe.Lend([]byte("x")), probe.Lend([]byte("ticket"))}
	h := server.Host{Key: probe.Array(1)}
	h.Chain = append(make([][]byte, 0, 5), all[0].Bytes(), all[1].Bytes(), []byte("spare"))[:2]
	h.Tickets = append(make([]server.Known, 0, 5), server.Known{Ticket: all[2].Bytes()}, server.Known{Ticket: all[3].Bytes(), Psk: probe.Array(3)}, server.Known{Psk: probe.Array(9)})[:2]
	return h, all
}

// TestMemory: P16.4.
func TestMemory(t *testing.T) {
	h, parts := lentHost()
	until := append(free(9), 5, 6)[:9]
	var texts []probe.Lent
	lendText := func(b []byte) []byte {
		texts = append(texts, probe.Lend(b))
		return texts[len(texts)-1].Bytes()
	}
	plain := func(b []byte) []byte { return b }
	wants := askAll(t, h, until, plain)
	for i, x := range askAll(t, h, until, lendText) {
		want, wantDid, e := wants[i].do(x.s)
		if e != api.OK {
			t.Fatalf("%s: %d", x.what, e)
		}
		l := lend(x.s)
		s, d, _ := x.do(l.s)
		if !l.kept() {
			t.Errorf("%s: the State that was handed in was changed", x.what)
		}
		l.spoil()
		for _, text := range texts {
			if !text.Kept() {
				t.Errorf("%s: bytes that were handed in were changed", x.what)
			}
			text.Spoil()
		}
		texts = nil
		ownMemory(t, x.what, s, d, want, wantDid)
	}
	for _, part := range parts {
		if !part.Kept() {
			t.Error("the Host was changed")
		}
	}
	if !slices.Equal(until[:11], append(free(9), 5, 6)) || string(h.Chain[:3][2]) != "spare" || h.Tickets[:3][2].Psk != probe.Array(9) {
		t.Error("lists that were handed in were changed")
	}
}

// TestHostIsntKept: P16.4; what was answered stays as it was, whatever becomes of the Host.
func TestHostIsntKept(t *testing.T) {
	h, parts := lentHost()
	x := askAll(t, h, free(9), func(b []byte) []byte { return b })[0]
	want, wantDid, _ := x.do(x.s)
	want, wantDid.Send, wantDid.Used = clone(want), slices.Clone(wantDid.Send), slices.Clone(wantDid.Used)
	s, d, _ := x.do(x.s)
	if string(s.Used) != "ticket" || string(d.Used) != "ticket" {
		t.Fatalf("by %q, %q", s.Used, d.Used)
	}
	for _, part := range parts {
		part.Spoil()
	}
	ownMemory(t, "a greeting", s, d, want, wantDid)
}

// TestMemoryOfErrors: P16.2 and P16.4; a State that is answered as it was is another one.
func TestMemoryOfErrors(t *testing.T) {
	open := opened(t, host(), 1)
	open.Part, open.Used = []byte{24}, []byte("used")
	wait := clone(open)
	wait.Phase = server.Wait
	closed := clone(open)
	closed.Phase = server.Closed
	last := clone(open)
	last.OutSeq = 64
	for _, x := range []asked{
		{"ErrGate", open, func(s server.State) (server.State, server.Did, api.Errno) { return server.Close(s, nil) }},
		{"ErrState", wait, func(s server.State) (server.State, server.Did, api.Errno) { return server.Write(s, free(9), nil) }},
		{"ErrArg", open, func(s server.State) (server.State, server.Did, api.Errno) { return server.Fail(s, free(9), -1) }},
		{"ErrEnd", closed, func(s server.State) (server.State, server.Did, api.Errno) { return server.Close(s, free(9)) }},
		{"number 64", last, func(s server.State) (server.State, server.Did, api.Errno) { return server.Update(s, free(9), true) }},
	} {
		l := lend(x.s)
		s, _, e := x.do(l.s)
		want := clone(x.s)
		if e == api.ErrEnd {
			want.Phase = server.Closed
		}
		if e == api.OK || !l.kept() {
			t.Errorf("%s: %d", x.what, e)
		}
		l.spoil()
		ownMemory(t, x.what, s, server.Did{}, want, server.Did{})
	}
}

// wild is a State of any numbers and bytes.
func wild(seed int) server.State {
	pick := probe.Bytes(64, seed)
	number := func(i int) int {
		far := []int{0, 1, 2, 3, 4, 5, 61, 62, 63, 64, 65, -1, -8, math.MinInt, math.MaxInt, math.MaxInt - 1}
		return far[pick[i]%16]
	}
	s := server.State{
		Phase: int(pick[0]%8) - 1, Log: probe.Bytes(int(pick[1])*9, 1), Sum: probe.Array(2), In: probe.Array(3), Out: probe.Array(4), Later: probe.Array(5),
		InSeq: number(2), OutSeq: number(3), InEpoch: number(4), OutEpoch: number(5), Sealed: pick[6]%2 == 0,
		Used: probe.Bytes(int(pick[7]), 3), Alert: number(8),
		Secrets: schedule.Secrets{Early: probe.Array(6), Hand: probe.Array(7), Master: probe.Array(8)},
	}
	if pick[9]%2 == 0 {
		s.Part = probe.Bytes(int(pick[10])%20, seed)
	}
	return s
}

// holds: P16.2 and P16.3, of a call of whatever State.
func holds(t *testing.T, what string, before, after server.State, d server.Did, e api.Errno, until []int) {
	t.Helper()
	if e != api.OK {
		want := before
		if e == api.ErrEnd {
			want.Phase = server.Closed
		}
		if e != api.ErrGate && !sameDid(d, server.Did{}) || !sameState(after, want) || len(d.Seals) > 0 || len(d.Send) > 0 {
			t.Errorf("%s: %d: something was done", what, e)
		}
		return
	}
	if !below(d, until) {
		t.Errorf("%s: a number that wasn't reserved: %v of %v", what, d.Seals, until)
	}
}

// TestWhateverStands: P1, P16.2 and P16.3; whatever State, and whatever comes.
func TestWhateverStands(t *testing.T) {
	for seed := range 2000 {
		s, pick := wild(seed), probe.Bytes(20, seed+1)
		was := clone(s)
		until := []int{int(pick[0]), int(pick[1]) % 70, 64, int(pick[2])%9 - 4, 64, 64}[:pick[3]%7]
		kind, text := int(pick[4]%6)+19, probe.Bytes(int(pick[5])%60, seed+2)
		switch pick[6] % 4 {
		case 0:
			text = newClient(1).greeting(t, s.Log)
		case 1:
			text = laid([]int{20, 24, 1}[pick[7]%3], text)
		}
		if s.Sealed {
			kind, text = 23, body(sealed(s.In, s.InSeq, 20+int(pick[8]%4), text[:min(len(text), 256)]))
		}
		x, d, e := server.Take(s, host(), until, kind, text, random(seed))
		holds(t, "Take", s, x, d, e, until)
		x, d, e = server.Write(s, until, probe.Bytes(int(pick[9])*10, 1))
		holds(t, "Write", s, x, d, e, until)
		x, d, e = server.Update(s, until, seed%2 == 0)
		holds(t, "Update", s, x, d, e, until)
		x, d, _, e = server.Give(s, until, int(pick[10])-5, 1, pick[:pick[11]%10], pick[:pick[12]%20])
		holds(t, "Give", s, x, d, e, until)
		x, d, e = server.Close(s, until)
		holds(t, "Close", s, x, d, e, until)
		x, d, e = server.Fail(s, until, int(pick[13])*2-100)
		holds(t, "Fail", s, x, d, e, until)
		if !reflect.DeepEqual(s, was) {
			t.Errorf("seed %d: the State that was handed in was changed", seed)
		}
	}
}

// TestWhateverComes: P1 and P5; a connection goes on or is closed, whatever records come, bent ones too.
func TestWhateverComes(t *testing.T) {
	for seed := range 300 {
		s, pick := server.New(), probe.Bytes(200, seed)
		for i := 0; i < len(pick) && s.Phase != server.Closed; i += 4 {
			kind, text := 20+int(pick[i])%4, probe.Bytes(int(pick[i+1])%8, i)
			switch {
			case pick[i]%8 < 5 && s.Phase < server.Wait:
				kind, text = 22, newClient(seed).greeting(t, s.Log)
			case pick[i]%8 < 5 && s.Phase == server.Wait:
				kind, text = 22, finished(s)
			case pick[i]%8 < 5:
				kind, text = 22, laid(24, []byte{pick[i+1] % 2})
			}
			if s.Sealed {
				kind, text = 23, body(sealed(s.In, s.InSeq, kind, text))
			}
			if pick[i+2] < 5 && len(text) > 0 {
				text[int(pick[i+3])%len(text)] ^= 1 << (pick[i+2] % 8)
			}
			x, d, e := server.Take(s, host(), free(60), kind, text, random(seed))
			if e != api.OK || x.Phase < s.Phase || x.Phase == server.Closed && x.Alert < 0 || len(d.Data) > 0 && x.Phase != server.Open {
				t.Fatalf("seed %d: %d, phase %d behind %d, alert %d", seed, e, x.Phase, s.Phase, x.Alert)
			}
			s = x
		}
	}
}
