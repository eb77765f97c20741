package server

import (
	"bytes"
	"slices"

	"relay/api"
	"relay/curve"
	"relay/hello"
	"relay/message"
	"relay/record"
	"relay/schedule"
	"relay/sender"
	"relay/sha"
	"relay/terms"
)

// resumed is the ticket that a client is resumed by, and its place among those that it offers (none: it isn't).
type resumed struct {
	place int
	known Known
}

// psk is the ticket's secret.
func (r resumed) psk() []byte {
	if r.place == none {
		return nil
	}
	return r.known.Psk[:]
}

// takeHello answers a ClientHello: by a retry, by all that the server says, or by an alert. ErrArg: random bytes by which the answer would be a retry's.
func (t *step) takeHello(c comes, body []byte) api.Errno {
	chain, e := message.PutChain(c.host.Chain)
	if e != api.OK {
		return t.alert(api.HandshakeFailure)
	}
	client, e := hello.GetClient(body)
	if e != api.OK {
		return t.alert(api.DecodeError)
	}
	if n := unfit(client); n != none {
		return t.alert(n)
	}
	greeting := terms.Message(message.ClientHello, body)
	share, ok := shareOf(client)
	if !ok && t.Phase == Start {
		t.retry(client, greeting)
		return api.OK
	}
	secret, public := [32]byte(c.random[32:]), share.Key
	if len(public) != len(secret) {
		return t.alert(api.IllegalParameter)
	}
	shared, ok := curve.Shared(secret, [32]byte(public))
	if !ok {
		return t.alert(api.IllegalParameter)
	}
	by, n := t.ticketOf(client, c.host, greeting)
	if n != none {
		return t.alert(n)
	}
	return t.answer(c, client, greeting, chain, shared, by)
}

// unfit is the alert to a client with which there is nothing in common.
func unfit(c hello.Client) int {
	switch {
	case !slices.Contains(c.Versions, terms.Version):
		return api.ProtocolVersion
	case !slices.Contains(c.Suites, terms.Suite):
		return api.HandshakeFailure
	case len(c.Groups) == 0 || len(c.Shares) == 0:
		return api.MissingExtension
	case !slices.Contains(c.Groups, terms.Group):
		return api.HandshakeFailure
	}
	return none
}

// shareOf is the first share of the one group.
func shareOf(c hello.Client) (hello.Share, bool) {
	for _, share := range c.Shares {
		if share.Group == terms.Group {
			return share, true
		}
	}
	return hello.Share{}, false
}

// ticketOf is by which ticket a client is resumed, or an alert; a client that isn't must know the scheme.
func (t *step) ticketOf(c hello.Client, h Host, greeting []byte) (resumed, int) {
	by := resumed{place: none}
	if len(c.Ids) > 0 {
		if len(c.Modes) == 0 {
			return by, api.MissingExtension
		}
		if slices.Contains(c.Modes, terms.Mode) {
			by = offered(c.Ids, h.Tickets)
		}
	}
	switch {
	case by.place != none:
		binder := schedule.Binder(by.psk(), terms.Bound(t.Log, greeting))
		if !sha.Same(c.Binders[by.place], binder[:]) {
			return by, api.DecryptError
		}
	case len(c.Schemes) == 0:
		return by, api.MissingExtension
	case !slices.Contains(c.Schemes, terms.Scheme):
		return by, api.HandshakeFailure
	}
	return by, none
}

// offered is the first ticket of a client's that is known.
func offered(ids []hello.Id, tickets []Known) resumed {
	for i, id := range ids {
		for _, known := range tickets {
			if bytes.Equal(id.Ticket, known.Ticket) {
				return resumed{place: i, known: known}
			}
		}
	}
	return resumed{place: none}
}

// retry asks for a share of the one group.
func (t *step) retry(c hello.Client, greeting []byte) {
	body, _ := hello.PutServer(hello.Server{
		Session: c.Session, Suite: terms.Suite, Version: terms.Version,
		Share: hello.Share{Group: terms.Group}, Retry: true, Psk: none,
	})
	b := terms.Message(message.ServerHello, body)
	t.sender.Plain(record.Handshake, b)
	t.Log, t.Phase = terms.Log(greeting, b), Retried
}

// answer says all that the server says in the handshake, and has the keys of data then.
func (t *step) answer(c comes, client hello.Client, greeting, chain []byte, shared [32]byte, by resumed) api.Errno {
	body, e := hello.PutServer(hello.Server{
		Random: [32]byte(c.random[:32]), Session: client.Session, Suite: terms.Suite, Version: terms.Version,
		Share: shareTo(c.random), Psk: by.place,
	})
	if e != api.OK {
		return e
	}
	t.Log = append(t.Log, greeting...)
	t.sender.Plain(record.Handshake, t.logged(message.ServerHello, body))
	t.Used, t.used = slices.Clone(by.known.Ticket), slices.Clone(by.known.Ticket)
	t.Secrets = schedule.Mix(schedule.Start(by.psk()), shared)
	sum := sha.Sum(t.Log)
	t.In, t.InSeq, t.InEpoch, t.Sealed = schedule.Traffic(t.Secrets.Hand, "c hs traffic", sum), 0, handshakeEpoch, true
	t.sender.Next = sender.Seal{Secret: schedule.Traffic(t.Secrets.Hand, "s hs traffic", sum), Epoch: handshakeEpoch}
	if e := t.sender.Text(record.Handshake, t.flight(c.host.Key, chain, by)); e != api.OK {
		return e
	}
	t.Secrets = schedule.Finish(t.Secrets)
	sum = sha.Sum(t.Log)
	t.Later = schedule.Traffic(t.Secrets.Master, "c ap traffic", sum)
	t.sender.Next = sender.Seal{Secret: schedule.Traffic(t.Secrets.Master, "s ap traffic", sum), Epoch: dataEpoch}
	t.Phase = Wait
	return api.OK
}

func shareTo(random [64]byte) hello.Share {
	public := curve.Public([32]byte(random[32:]))
	return hello.Share{Group: terms.Group, Key: public[:]}
}

// flight is the messages that are sealed by the handshake's key, side by side; each is of the Log's sum ahead of it.
func (t *step) flight(key [32]byte, chain []byte, by resumed) []byte {
	b := t.logged(message.Encrypted, []byte{0, 0})
	if by.place == none {
		b = append(b, t.logged(message.Certificate, chain)...)
		verify, _ := message.PutVerify(terms.Scheme, schedule.Sign(key, sha.Sum(t.Log)))
		b = append(b, t.logged(message.Verify, verify)...)
	}
	finished := schedule.Verify(t.sender.Next.Secret, sha.Sum(t.Log))
	return append(b, t.logged(message.Finished, finished[:])...)
}
