package shell

import (
	"bytes"
	"testing"

	"relay/api"
	"relay/host"
	"relay/peer"
)

// shellOf is a shell for which these lines were done.
func shellOf(t *testing.T, lines ...string) *shell {
	t.Helper()
	s := newShell()
	for _, line := range lines {
		if told := s.told(line); told == "?" || told[0] == 'e' {
			t.Fatalf("%s: %s", line, told)
		}
	}
	return s
}

// filledBy fails, if b isn't as many bytes of that kind.
func filledBy(t *testing.T, what string, b []byte, count, with int) {
	t.Helper()
	if !bytes.Equal(b, bytes.Repeat([]byte{byte(with)}, count)) {
		t.Errorf("%s: %x", what, b)
	}
}

func TestGiven(t *testing.T) {
	if s := newShell(); s.disk.Size() != 512 || !s.host.On() {
		t.Error(s.disk.Size())
	}
	for conn, name := range []string{"0", "1", "2", "3"} {
		s := shellOf(t, "begin "+name, "come "+name)
		p := s.links[conn].peer
		filledBy(t, "key", p.Plan.Key[:], 32, 1)
		filledBy(t, "random", p.Random[:], 64, conn)
		if !p.Plan.Share || p.Retried || len(p.Plan.Ticket) > 0 || p.Phase != peer.Open {
			t.Errorf("%+v", p)
		}
		// the kind, the count, and the random bytes of a ServerHello; the one certificate
		answer := append([]byte{2, 0, 0, 86, 3, 3}, bytes.Repeat([]byte{byte(10 + conn)}, 32)...)
		if !bytes.Contains(p.Log, answer) || !bytes.Contains(p.Log, []byte{11, 0, 0, 10, 0, 0, 0, 6, 0, 0, 1, 1, 0, 0}) {
			t.Errorf("%s: %x", name, p.Log)
		}
	}
}

func TestTickets(t *testing.T) {
	s := shellOf(t, "begin 1", "come 1", "come 1", "give 1", "give 1")
	if n := len(s.links[1].peer.Tickets); n != 2 {
		t.Error(n)
	}
}

func TestErrorsTellNothing(t *testing.T) {
	s := shellOf(t, "begin 1", "come 1", "come 1", "say 1 a")
	l := s.links[1]
	text, e := l.sent(host.Out{Send: []byte{1}, Data: []byte{2}}, api.ErrFull)
	if text != "" || e != api.ErrFull || l.peer.Phase != peer.Open || len(l.way) != 0 {
		t.Error(text, e, l.peer.Phase)
	}
}

func TestPeerErrs(t *testing.T) {
	l := shellOf(t, "begin 1", "come 1", "come 1", "say 1 a", "tell 1 b").links[1]
	way := bytes.Clone(l.way)
	if text, e := l.sent(host.Out{Send: []byte{23, 3, 3, 0, 1, 0}}, api.OK); text != "" || e != api.ErrAlert {
		t.Error(text, e)
	}
	if l.peer.Phase != peer.Closed || string(l.peer.Data) != "a" || !bytes.Equal(l.way, way) {
		t.Errorf("%d, %q, %x", l.peer.Phase, l.peer.Data, l.way)
	}
	// it stays what it is
	if e := l.hear([]byte{23}); e != api.ErrEnd || l.peer.Phase != peer.Closed || string(l.peer.Data) != "a" {
		t.Error(e, l.peer.Phase)
	}
	if e := l.hear(nil); e != api.OK {
		t.Error(e)
	}
	if text, e := l.tell("c"); text != "" || e != api.ErrState || !bytes.Equal(l.way, way) {
		t.Error(text, e)
	}
}
