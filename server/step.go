package server

import (
	"relay/api"
	"relay/message"
	"relay/record"
	"relay/sender"
	"relay/terms"
)

// step is a State while something is done with it, and what came of that so far. What is sealed goes by sender alone: Out, OutSeq and OutEpoch are laid back at the end.
type step struct {
	State
	sender     sender.Sender
	data, used []byte
}

// run does something with a copy of s; with an error nothing of it counts. (ErrEnd closes, also what was closed already.)
func run(s State, until []int, do func(*step) api.Errno) (State, Did, api.Errno) {
	t := begin(s, until)
	switch e := do(t); e {
	case api.OK:
		return t.state(), t.did(), api.OK
	case api.ErrGate:
		return copied(s), Did{Epoch: t.sender.Next.Epoch, Until: t.sender.Wanted()}, e
	case api.ErrEnd:
		s.Phase = Closed
		return copied(s), Did{}, e
	default:
		return copied(s), Did{}, e
	}
}

func begin(s State, until []int) *step {
	return &step{State: copied(s), sender: sender.Sender{
		Next:  sender.Seal{Secret: s.Out, Epoch: s.OutEpoch, Seq: s.OutSeq},
		Until: func(epoch int) int { return reserved(until, epoch) },
	}}
}

// reserved is up to which number an epoch was reserved.
func reserved(until []int, epoch int) int {
	if epoch < 0 || epoch >= len(until) {
		return 0
	}
	return min(max(until[epoch], 0), api.MaxSeq)
}

func (t *step) state() State {
	s, next := t.State, t.sender.Next
	s.Out, s.OutEpoch, s.OutSeq = next.Secret, next.Epoch, next.Seq
	return s
}

func (t *step) did() Did {
	did := Did{Send: t.sender.Sent, Data: t.data, Used: t.used}
	for _, seal := range t.sender.Seals {
		did.Seals = append(did.Seals, Sealed(seal))
	}
	return did
}

// alert ends the connection, and says so.
func (t *step) alert(alert int) api.Errno {
	if e := t.sender.Alert(alert); e != api.OK {
		return e
	}
	t.Phase, t.Alert = Closed, alert
	return api.OK
}

func (t *step) give(n message.New) api.Errno {
	body, e := message.PutNew(n)
	if e != api.OK {
		return e
	}
	return t.sender.Text(record.Handshake, terms.Message(message.Ticket, body))
}

// logged is a message's bytes, which the Log has from here on.
func (t *step) logged(kind int, body []byte) []byte {
	b := terms.Message(kind, body)
	t.Log = append(t.Log, b...)
	return b
}
