package server

import (
	"bytes"

	"relay/api"
	"relay/message"
	"relay/record"
	"relay/schedule"
	"relay/sha"
)

// epochs of what comes: that of the handshake, and the first one of data.
const (
	handshakeEpoch = 1
	dataEpoch      = 2
)

// mostAsk is the greatest number of a key update that means something.
const mostAsk = 1

// comes is what a record is answered with: who answers, and random bytes.
type comes struct {
	host   Host
	random [64]byte
}

// take answers a record. A Change isn't sealed at any time.
func (t *step) take(c comes, kind int, body []byte) api.Errno {
	if kind == record.Change {
		return t.takeChange(body)
	}
	if t.Sealed {
		opened, text, alert := t.open(kind, body)
		if alert != none {
			return t.alert(alert)
		}
		kind, body = opened, text
	} else if kind == record.Data {
		return t.alert(api.Unexpected)
	}
	switch kind {
	case record.Alert:
		return t.takeAlert(body)
	case record.Data:
		return t.takeData(body)
	case record.Handshake:
		return t.takeHandshake(c, body)
	}
	return t.alert(api.Unexpected)
}

func (t *step) takeChange(body []byte) api.Errno {
	if t.Phase == Open || !bytes.Equal(body, []byte{1}) {
		return t.alert(api.Unexpected)
	}
	return api.OK
}

// open is the type and the text of a sealed record, or an alert.
func (t *step) open(kind int, body []byte) (int, []byte, int) {
	if kind != record.Data || t.InSeq >= api.MaxSeq {
		return 0, nil, api.Unexpected
	}
	opened, text, e := record.Open(record.Derive(t.In), uint64(t.InSeq), body)
	switch {
	case e == api.ErrForm:
		return 0, nil, api.Unexpected
	case e != api.OK:
		return 0, nil, api.BadRecord
	}
	t.InSeq++
	if opened == record.Change {
		return 0, nil, api.Unexpected
	}
	return opened, text, none
}

func (t *step) takeAlert(body []byte) api.Errno {
	switch {
	case len(body) != 2:
		return t.alert(api.DecodeError)
	case len(t.Part) > 0:
		return t.alert(api.Unexpected)
	case body[1] == api.CloseNotify:
		return t.alert(api.CloseNotify)
	}
	t.Phase, t.Alert = Closed, int(body[1])
	return api.OK
}

func (t *step) takeData(text []byte) api.Errno {
	if t.Phase != Open || len(t.Part) > 0 {
		return t.alert(api.Unexpected)
	}
	t.data = text
	return api.OK
}

// takeHandshake goes on with the message that is open. As no byte may stand behind a message in its record, one is done at most.
func (t *step) takeHandshake(c comes, body []byte) api.Errno {
	if len(body) == 0 {
		return t.alert(api.Unexpected)
	}
	t.Part = append(t.Part, body...)
	m, rest, ok, e := message.Take(t.Part)
	switch {
	case e != api.OK:
		return t.alert(api.DecodeError)
	case !ok:
		return api.OK
	case len(rest) > 0:
		return t.alert(api.Unexpected)
	}
	t.Part = nil
	return t.takeMessage(c, m)
}

func (t *step) takeMessage(c comes, m message.Msg) api.Errno {
	switch {
	case m.Kind == message.ClientHello && (t.Phase == Start || t.Phase == Retried):
		return t.takeHello(c, m.Body)
	case m.Kind == message.Finished && t.Phase == Wait:
		return t.takeFinished(m.Body)
	case m.Kind == message.Update && t.Phase == Open:
		return t.takeUpdate(m.Body)
	}
	return t.alert(api.Unexpected)
}

func (t *step) takeFinished(body []byte) api.Errno {
	want := schedule.Verify(t.In, sha.Sum(t.Log))
	if !sha.Same(body, want[:]) {
		return t.alert(api.DecryptError)
	}
	t.logged(message.Finished, body)
	t.In, t.InSeq, t.InEpoch = t.Later, 0, dataEpoch
	t.Sum, t.Phase = sha.Sum(t.Log), Open
	return api.OK
}

// takeUpdate holds the number against its edge first: it stands ahead of what else may be wrong.
func (t *step) takeUpdate(body []byte) api.Errno {
	if len(body) > 0 && body[0] > mostAsk {
		return t.alert(api.IllegalParameter)
	}
	isAsked, e := message.GetUpdate(body)
	if e != api.OK {
		return t.alert(api.DecodeError)
	}
	t.In, t.InSeq, t.InEpoch = record.Next(t.In), 0, t.InEpoch+1
	if isAsked {
		return t.sender.Update(false)
	}
	return api.OK
}
