package host

import (
	"relay/api"
	"relay/record"
	"relay/server"
	"relay/stream"
	"relay/tickets"
)

// mostEpoch is the greatest epoch that has room in an entry.
const mostEpoch = 65535

// turn is what is done with a connection in one call: nothing of it counts before all is written that it stands for.
type turn struct {
	host   *Host
	number int
	conn   *conn
	state  server.State
	left   []byte
	out    Out
	sealed bool // was a record sealed?
}

// call is one of server's, of a State and the numbers that are reserved.
type call func(s server.State, until []int) (server.State, server.Did, api.Errno)

// turn does something with a connection. ErrEnd is server's, by which it closes.
func (h *Host) turn(number int, do func(*turn) api.Errno) (Out, api.Errno) {
	c, e := h.living(number)
	if e != api.OK {
		return Out{}, e
	}
	t := &turn{host: h, number: number, conn: c, state: c.state, left: c.left}
	e = do(t)
	switch {
	case e != api.OK && e != api.ErrEnd:
		return t.undone(e)
	case t.state.Phase == server.Closed:
		return t.end(e)
	}
	c.state, c.left = t.state, t.left
	return t.out, api.OK
}

// undone is a turn that doesn't count. What was sealed may have been of other texts than what would be sealed by the same numbers later: so nothing is.
func (t *turn) undone(e api.Errno) (Out, api.Errno) {
	if t.sealed {
		delete(t.host.conns, t.number)
	}
	return Out{}, e
}

// end is a turn that closes, by an error or without one.
func (t *turn) end(e api.Errno) (Out, api.Errno) {
	if e := t.host.write(putConn(ended, t.number)); e != api.OK {
		return t.undone(e)
	}
	delete(t.host.conns, t.number)
	if e != api.OK {
		return Out{}, e
	}
	return t.out, api.OK
}

// step does one of server's calls, as often as numbers must be reserved for it first.
func (t *turn) step(do call) api.Errno {
	for {
		s, did, e := do(t.state, t.conn.until)
		if e == api.ErrGate {
			if e := t.reserve(did.Epoch, did.Until); e != api.OK {
				return e
			}
			continue
		}
		t.state = s
		t.seals(did.Seals)
		t.out.Send, t.out.Data = append(t.out.Send, did.Send...), append(t.out.Data, did.Data...)
		if e == api.OK && len(did.Used) > 0 {
			return t.host.use(did.Used)
		}
		return e
	}
}

// reserve reserves an epoch's numbers. They stay so, also if the turn doesn't count.
func (t *turn) reserve(epoch, until int) api.Errno {
	if epoch > mostEpoch {
		return api.ErrFull
	}
	if e := t.host.write(putReserved(t.number, epoch, until)); e != api.OK {
		return e
	}
	for len(t.conn.until) <= epoch {
		t.conn.until = append(t.conn.until, 0)
	}
	t.conn.until[epoch] = until
	return api.OK
}

func (t *turn) seals(list []server.Sealed) {
	for _, s := range list {
		keys := record.Derive(s.Secret)
		t.host.seals = append(t.host.seals, Seal{Key: keys.Key, Nonce: record.Nonce(keys, uint64(s.Seq))})
		t.sealed = true
	}
}

// take answers all records that are there, up to one that closes.
func (t *turn) take(b []byte, random [64]byte) api.Errno {
	r := stream.New(t.left)
	r.Feed(b)
	for {
		kind, body, ok, wrong := r.Take()
		if !ok && wrong == api.OK {
			break
		}
		e := t.step(func(s server.State, until []int) (server.State, server.Did, api.Errno) {
			if wrong != api.OK {
				return server.Fail(s, until, alertOf(wrong))
			}
			return server.Take(s, t.host.server(), until, kind, body, random)
		})
		if e != api.OK {
			return e
		}
		if t.state.Phase == server.Closed {
			break
		}
	}
	t.left = r.Left()
	return api.OK
}

// alertOf is the alert to bytes that can't be a record.
func alertOf(wrong api.Errno) int {
	if wrong == api.ErrFull {
		return api.RecordOverflow
	}
	return api.Unexpected
}

// give sends a ticket. That it can't be minted has to be known ahead: what is sealed can't be sealed again.
func (t *turn) give() api.Errno {
	table := t.host.table
	if _, _, e := tickets.Mint(table, [32]byte{}); e != api.OK {
		return e
	}
	var secret [32]byte
	e := t.step(func(s server.State, until []int) (server.State, server.Did, api.Errno) {
		next, did, psk, e := server.Give(s, until, life, add, nonceOf(table.Next), tickets.Text(table, table.Next))
		secret = psk
		return next, did, e
	})
	if e != api.OK {
		return e
	}
	return t.host.mint(secret)
}
