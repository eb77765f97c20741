package shell

import (
	"relay/api"
	"relay/host"
	"relay/peer"
)

// link is a connection's other side, and what is between.
type link struct {
	peer peer.Peer
	way  []byte // what the peer sent, and didn't come yet
	got  []byte // what was delivered to the Hosts
}

// hear: bytes go to the peer, whose answer is on its way. A peer that was closed stays as it was.
func (l *link) hear(b []byte) api.Errno {
	if len(b) == 0 {
		return api.OK
	}
	p, answer, e := peer.Take(l.peer, b)
	if e == api.ErrEnd {
		return e
	}
	l.peer, l.way = p, append(l.way, answer...)
	return e
}

// sent is what came of a call of the Host: what it sends goes to the peer, unless it tells an error.
func (l *link) sent(out host.Out, e api.Errno) (string, api.Errno) {
	if e != api.OK {
		return "", e
	}
	if e := l.hear(out.Send); e != api.OK {
		return "", e
	}
	return done, api.OK
}

// tell: the peer writes a text, which is on its way.
func (l *link) tell(text string) (string, api.Errno) {
	p, b, e := peer.Write(l.peer, []byte(text))
	if e != api.OK {
		return "", e
	}
	l.peer, l.way = p, append(l.way, b...)
	return done, api.OK
}
