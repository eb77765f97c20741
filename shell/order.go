package shell

import (
	"strconv"
	"strings"

	"relay/api"
	"relay/host"
	"relay/peer"
)

// done is told where there is nothing else to tell.
const done = "ok"

// hostsOwn is put to a connection's number for a Host's random bytes: a peer's are others.
const hostsOwn = 10

// order is what a line asks for: do does it; what is told.
type order interface {
	do(s *shell) (string, api.Errno)
}

// linked is an order of a connection, which has to be begun for it.
type linked interface {
	order
	conn() int
}

// of is whose an order is.
type of struct{ number int }

func (o of) conn() int { return o.number }

// The orders (shut is that of the line "close", which is a word of the language). A begin isn't linked: there is no connection ahead of it.
type (
	begin  struct{ number int }
	come   struct{ of }
	turn   struct{ of }
	give   struct{ of }
	shut   struct{ of }
	freeze struct{ of }
	heard  struct{ of }
	got    struct{ of }
	say    struct {
		of
		text string
	}
	tell struct {
		of
		text string
	}
	crash struct{}
	seals struct{}
	other struct{}
)

func (o begin) do(s *shell) (string, api.Errno) {
	if e := s.host.Accept(o.number); e != api.OK {
		return "", e
	}
	p, b := peer.Hello(peer.Plan{Key: hostKey(), Share: true}, filled(byte(o.number)))
	s.links[o.number] = &link{peer: p, way: b}
	return done, api.OK
}

// do of come: the bytes aren't on their way any more, also if the Host tells an error of them.
func (o come) do(s *shell) (string, api.Errno) {
	l := s.links[o.number]
	b := l.way
	l.way = nil
	out, e := s.host.Take(o.number, b, filled(byte(hostsOwn+o.number)))
	if e != api.OK {
		return "", e
	}
	l.got = append(l.got, out.Data...)
	if e := l.hear(out.Send); e != api.OK {
		return "", e
	}
	return strconv.Itoa(len(out.Data)), api.OK
}

func (o say) do(s *shell) (string, api.Errno) {
	return s.links[o.number].sent(s.host.Write(o.number, []byte(o.text)))
}

func (o tell) do(s *shell) (string, api.Errno) { return s.links[o.number].tell(o.text) }

func (o turn) do(s *shell) (string, api.Errno) {
	return s.links[o.number].sent(s.host.Update(o.number, true))
}

func (o give) do(s *shell) (string, api.Errno) {
	return s.links[o.number].sent(s.host.Give(o.number))
}

func (o shut) do(s *shell) (string, api.Errno) {
	return s.links[o.number].sent(s.host.Close(o.number))
}

func (o freeze) do(s *shell) (string, api.Errno) {
	if e := s.host.Freeze(o.number); e != api.OK {
		return "", e
	}
	return done, api.OK
}

// do of crash: nothing of the Host that was counts any more, but how often it sealed.
func (crash) do(s *shell) (string, api.Errno) {
	s.seals += len(s.host.Seals())
	h, list, e := host.Recover(s.disk, hostKey(), hostChain())
	s.host = h
	if e != api.OK {
		return "", e
	}
	if len(list) == 0 {
		return "nobody", api.OK
	}
	var words []string
	for _, f := range list {
		words = append(words, strconv.Itoa(f.Conn), outcome(f))
	}
	return strings.Join(words, string(blank)), api.OK
}

func outcome(f host.Found) string {
	if f.Outcome == host.Resumed {
		return "resumed"
	}
	return "aborted"
}

func (o heard) do(s *shell) (string, api.Errno) { return string(s.links[o.number].peer.Data), api.OK }

func (o got) do(s *shell) (string, api.Errno) { return string(s.links[o.number].got), api.OK }

func (seals) do(s *shell) (string, api.Errno) {
	return strconv.Itoa(s.seals + len(s.host.Seals())), api.OK
}

// do of other: the line is none of those above.
func (other) do(*shell) (string, api.Errno) { return "?", api.OK }
