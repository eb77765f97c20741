// Package sender seals what one side of a connection sends: record by record, each by the next number of a key.
package sender

import (
	"relay/api"
	"relay/message"
	"relay/record"
	"relay/terms"
)

const (
	// sealedFrom is the first epoch whose records are sealed; turnedFrom the first one behind which a new key may come.
	sealedFrom = 1
	turnedFrom = 2
	// lastNumbers are kept for a key update and an alert.
	lastNumbers = api.MaxSeq - 2
)

// Levels of alerts.
const (
	warning = 1
	fatal   = 2
)

// Seal is by what a record is sealed: a secret, its epoch, a number.
type Seal struct {
	Secret     [32]byte
	Epoch, Seq int
}

// Sender is by what the next record is sealed, what was sent so far and by what it was sealed. Until tells of an epoch up to which number it may be used. With an error a Sender is none to go on with.
type Sender struct {
	Next  Seal
	Sent  []byte
	Seals []Seal
	Until func(epoch int) int
}

// Free is the Until of a side that needn't reserve its numbers.
func Free(int) int { return api.MaxSeq }

// Wanted is up to where numbers must be reserved for the next record.
func (s *Sender) Wanted() int { return (s.Next.Seq/api.Block + 1) * api.Block }

// Plain sends a text that isn't sealed, in as many records as it takes.
func (s *Sender) Plain(kind int, text []byte) {
	for _, part := range record.Parts(text) {
		b, _ := record.Plain(kind, part)
		s.Sent = append(s.Sent, b...)
	}
}

// Text sends a text, in as many sealed records as it takes; ahead of a key's last numbers comes a new one.
func (s *Sender) Text(kind int, text []byte) api.Errno {
	for _, part := range record.Parts(text) {
		if s.Next.Epoch >= turnedFrom && s.Next.Seq >= lastNumbers {
			if e := s.Update(false); e != api.OK {
				return e
			}
		}
		if e := s.seal(kind, part); e != api.OK {
			return e
		}
	}
	return api.OK
}

// Update sends a key update: what follows is sealed by the next key.
func (s *Sender) Update(ask bool) api.Errno {
	if e := s.seal(record.Handshake, terms.Message(message.Update, message.PutUpdate(ask))); e != api.OK {
		return e
	}
	s.Next = Seal{Secret: record.Next(s.Next.Secret), Epoch: s.Next.Epoch + 1}
	return api.OK
}

// Alert sends an alert, sealed as soon as there is a key.
func (s *Sender) Alert(alert int) api.Errno {
	level := fatal
	if alert == api.CloseNotify {
		level = warning
	}
	text := []byte{byte(level), byte(alert)}
	if s.Next.Epoch < sealedFrom {
		s.Plain(record.Alert, text)
		return api.OK
	}
	return s.seal(record.Alert, text)
}

// seal sends one record, by the next number. ErrEnd: the key has none any more; ErrGate: it wasn't reserved.
func (s *Sender) seal(kind int, text []byte) api.Errno {
	switch {
	case s.Next.Seq >= api.MaxSeq:
		return api.ErrEnd
	case s.Next.Seq >= s.Until(s.Next.Epoch):
		return api.ErrGate
	}
	b, _ := record.Seal(record.Derive(s.Next.Secret), uint64(s.Next.Seq), kind, text, 0)
	s.Sent = append(s.Sent, b...)
	s.Seals = append(s.Seals, s.Next)
	s.Next.Seq++
	return api.OK
}
