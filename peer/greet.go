package peer

import (
	"relay/api"
	"relay/curve"
	"relay/hello"
	"relay/message"
	"relay/record"
	"relay/schedule"
	"relay/sender"
	"relay/sha"
	"relay/terms"
)

const (
	// otherGroup is a group that no server here knows: a share of it calls for a retry.
	otherGroup = 0x0017
	// keySize is how many bytes a share's key has.
	keySize = 32
)

// epochs of both directions: that of the handshake, and the first one of data.
const (
	handshakeEpoch = 1
	dataEpoch      = 2
)

// isOffered: has the Plan a ticket that can be offered?
func isOffered(p Plan) bool { return len(p.Ticket) > 0 && len(p.Ticket) <= maxTicket }

// greet sends a ClientHello, with our share or the other one.
func (t *step) greet(hasShare bool) {
	greeting := t.greeting(hasShare)
	t.Log = append(t.Log, greeting...)
	t.sender.Plain(record.Handshake, greeting)
}

func (t *step) greeting(hasShare bool) []byte {
	c := hello.Client{
		Random: [32]byte(t.Random[:32]), Suites: []int{terms.Suite}, Versions: []int{terms.Version},
		Groups: []int{terms.Group}, Schemes: []int{terms.Scheme}, Modes: []byte{terms.Mode},
		Shares: []hello.Share{t.share(hasShare)},
	}
	if !t.Plan.Share {
		c.Groups = append(c.Groups, otherGroup)
	}
	if !isOffered(t.Plan) {
		return bytesOf(c)
	}
	c.Ids, c.Binders = []hello.Id{{Ticket: t.Plan.Ticket}}, [][]byte{make([]byte, api.HashSize)}
	binder := schedule.Binder(t.Plan.Psk[:], terms.Bound(t.Log, bytesOf(c)))
	c.Binders[0] = binder[:]
	return bytesOf(c)
}

func bytesOf(c hello.Client) []byte {
	body, _ := hello.PutClient(c)
	return terms.Message(message.ClientHello, body)
}

func (t *step) share(isOurs bool) hello.Share {
	if !isOurs {
		return hello.Share{Group: otherGroup, Key: make([]byte, keySize)}
	}
	public := curve.Public([32]byte(t.Random[32:]))
	return hello.Share{Group: terms.Group, Key: public[:]}
}

// takeExpected takes the handshake's next message.
func (t *step) takeExpected(m message.Msg) int {
	switch m.Kind {
	case message.ServerHello:
		return t.takeHello(m.Body)
	case message.Encrypted:
		return t.takeEncrypted(m.Body)
	case message.Certificate:
		return t.takeChain(m.Body)
	case message.Verify:
		return t.takeVerify(m.Body)
	case message.Finished:
		return t.takeFinished(m.Body)
	}
	return api.Unexpected
}

// log has the Log have a message.
func (t *step) log(kind int, body []byte) { t.Log = append(t.Log, terms.Message(kind, body)...) }

func (t *step) takeHello(body []byte) int {
	s, e := hello.GetServer(body)
	switch {
	case e != api.OK:
		return api.DecodeError
	case s.Retry && (t.Retried || t.Plan.Share):
		return api.Unexpected
	case !t.isAsked(s):
		return api.IllegalParameter
	case s.Retry:
		t.retry(body)
		return none
	}
	shared, ok := curve.Shared([32]byte(t.Random[32:]), [32]byte(s.Share.Key))
	if !ok {
		return api.IllegalParameter
	}
	t.Resumed = s.Psk >= 0
	t.key(body, shared)
	return none
}

// isAsked: is an answer what was asked for?
func (t *step) isAsked(s hello.Server) bool {
	if len(s.Session) > 0 || s.Suite != terms.Suite || s.Version != terms.Version || s.Share.Group != terms.Group {
		return false
	}
	if s.Retry {
		return true
	}
	return len(s.Share.Key) == keySize && (s.Psk == -1 || s.Psk == 0 && isOffered(t.Plan))
}

// retry greets again, with our share.
func (t *step) retry(body []byte) {
	t.Log = terms.Log(t.Log, terms.Message(message.ServerHello, body))
	t.Retried = true
	t.greet(true)
}

// key has the handshake's keys from here on.
func (t *step) key(body []byte, shared [32]byte) {
	t.log(message.ServerHello, body)
	var psk []byte
	if t.Resumed {
		psk = t.Plan.Psk[:]
	}
	t.Secrets = schedule.Mix(schedule.Start(psk), shared)
	t.turn(t.Secrets.Hand, "c hs traffic", "s hs traffic", handshakeEpoch)
	t.Phase, t.Expect = Keyed, message.Encrypted
}

// turn has new keys in both directions, of the Log's sum.
func (t *step) turn(secret [32]byte, ours, theirs string, epoch int) {
	sum := sha.Sum(t.Log)
	t.sender.Next = sender.Seal{Secret: schedule.Traffic(secret, ours, sum), Epoch: epoch}
	t.In, t.InSeq, t.InEpoch = schedule.Traffic(secret, theirs, sum), 0, epoch
}

// takeEncrypted: its count must be that of its bytes, and whatever stood in it wasn't asked for.
func (t *step) takeEncrypted(body []byte) int {
	if len(body) < 2 || int(body[0])<<8|int(body[1]) != len(body)-2 {
		return api.DecodeError
	}
	if len(body) > 2 {
		return api.IllegalParameter
	}
	t.log(message.Encrypted, body)
	t.Expect = message.Certificate
	if t.Resumed {
		t.Expect = message.Finished
	}
	return none
}

func (t *step) takeChain(body []byte) int {
	if _, e := message.GetChain(body); e != api.OK {
		return api.DecodeError
	}
	t.log(message.Certificate, body)
	t.Expect = message.Verify
	return none
}

func (t *step) takeVerify(body []byte) int {
	scheme, sig, e := message.GetVerify(body)
	if e != api.OK {
		return api.DecodeError
	}
	if scheme != terms.Scheme || !sha.Same(sig, schedule.Sign(t.Plan.Key, sha.Sum(t.Log))) {
		return api.DecryptError
	}
	t.log(message.Verify, body)
	t.Expect = message.Finished
	return none
}

// takeFinished answers by our own Finished; behind it data may come and be sent.
func (t *step) takeFinished(body []byte) int {
	want := schedule.Verify(t.In, sha.Sum(t.Log))
	if !sha.Same(body, want[:]) {
		return api.DecryptError
	}
	t.log(message.Finished, body)
	ours := schedule.Verify(t.sender.Next.Secret, sha.Sum(t.Log))
	if e := t.sender.Text(record.Handshake, terms.Message(message.Finished, ours[:])); e != api.OK {
		return alertOf(e)
	}
	t.Secrets = schedule.Finish(t.Secrets)
	t.turn(t.Secrets.Master, "c ap traffic", "s ap traffic", dataEpoch)
	t.log(message.Finished, ours[:])
	t.Sum, t.Phase, t.Expect = sha.Sum(t.Log), Open, 0
	return none
}
