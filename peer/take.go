package peer

import (
	"relay/api"
	"relay/message"
	"relay/record"
	"relay/schedule"
)

// take takes a record; an alert, if the Peer closes by an error.
func (t *step) take(kind int, body []byte) int {
	if t.Phase != Greeted {
		opened, text, alert := t.open(kind, body)
		if alert != none {
			return alert
		}
		kind, body = opened, text
	}
	switch kind {
	case record.Alert:
		return t.takeAlert(body)
	case record.Data:
		return t.takeData(body)
	case record.Handshake:
		return t.takeHandshake(body)
	}
	return api.Unexpected
}

// open is the type and the text of a sealed record, or an alert.
func (t *step) open(kind int, body []byte) (int, []byte, int) {
	if kind != record.Data {
		return 0, nil, api.Unexpected
	}
	if t.InSeq >= api.MaxSeq {
		return 0, nil, api.BadRecord
	}
	opened, text, e := record.Open(record.Derive(t.In), uint64(t.InSeq), body)
	switch {
	case e == api.ErrForm:
		return 0, nil, api.DecodeError
	case e != api.OK:
		return 0, nil, api.BadRecord
	}
	t.InSeq++
	return opened, text, none
}

func (t *step) takeAlert(body []byte) int {
	switch {
	case len(body) != 2:
		return api.DecodeError
	case len(t.Part) > 0:
		return api.Unexpected
	}
	t.Phase, t.Alert = Closed, int(body[1])
	return none
}

func (t *step) takeData(text []byte) int {
	if t.Phase != Open || len(t.Part) > 0 {
		return api.Unexpected
	}
	t.Data = append(t.Data, text...)
	return none
}

// takeHandshake goes on with the message that is open, message by message.
func (t *step) takeHandshake(body []byte) int {
	if len(body) == 0 {
		return api.Unexpected
	}
	t.Part = append(t.Part, body...)
	for {
		m, rest, ok, e := message.Take(t.Part)
		switch {
		case e != api.OK:
			return api.DecodeError
		case !ok:
			return none
		case len(rest) > 0 && !t.mayGoOn(m):
			return api.Unexpected
		}
		t.Part = rest
		if alert := t.takeMessage(m); alert != none {
			return alert
		}
	}
}

// mayGoOn: may others stand behind a message in its record? Only a server's flight comes side by side, up to its Finished: behind that, as behind others, there are other keys, or nothing more to say.
func (t *step) mayGoOn(m message.Msg) bool {
	return t.Phase == Keyed && m.Kind != message.Finished
}

func (t *step) takeMessage(m message.Msg) int {
	switch {
	case t.Phase == Open:
		return t.takeLater(m)
	case m.Kind == t.Expect:
		return t.takeExpected(m)
	}
	return api.Unexpected
}

// takeLater takes a message behind the handshake.
func (t *step) takeLater(m message.Msg) int {
	switch m.Kind {
	case message.Ticket:
		return t.takeTicket(m.Body)
	case message.Update:
		return t.takeUpdate(m.Body)
	}
	return api.Unexpected
}

func (t *step) takeTicket(body []byte) int {
	n, e := message.GetNew(body)
	if e != api.OK {
		return api.DecodeError
	}
	psk := schedule.Resume(t.Secrets.Master, t.Sum, n.Nonce)
	t.Tickets = append(t.Tickets, New{Ticket: n.Ticket, Psk: psk})
	return none
}

func (t *step) takeUpdate(body []byte) int {
	isAsked, e := message.GetUpdate(body)
	if e != api.OK {
		return api.DecodeError
	}
	t.In, t.InSeq, t.InEpoch = record.Next(t.In), 0, t.InEpoch+1
	if !isAsked {
		return none
	}
	return alertOf(t.sender.Update(false))
}

// alertOf is by what a Peer closes that can't send: its numbers are used up.
func alertOf(e api.Errno) int {
	if e != api.OK {
		return api.BadRecord
	}
	return none
}
