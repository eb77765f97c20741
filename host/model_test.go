package host_test

import (
	"maps"
	"slices"

	"relay/api"
	"relay/host"
	"relay/journal"
	"relay/server"
	"relay/snap"
	"relay/stream"
	"relay/tickets"
	"relay/vault"
)

// model is what a Host should be, by the chapter's words, over a list of entries in place of a disk.
type model struct {
	size    int        // sectors of an area
	list    [][]byte   // what stands in the journal
	past    [][][]byte // what stood there behind each write of the last step
	conns   map[int]*side
	table   tickets.Table
	count   int // the vault's next one
	counted int
	seals   []host.Seal
}

// side is a connection of a model.
type side struct {
	s          server.State
	left       []byte
	generation int
	until      []int
}

func newModel(size int) *model {
	return &model{size: size, conns: map[int]*side{}, table: tickets.New(ticketKey())}
}

func numbers(width, n int) []byte {
	var b []byte
	for i := width - 1; i >= 0; i-- {
		b = append(b, byte(n>>(8*i)))
	}
	return b
}

// connOf is whose an entry is.
func connOf(b []byte) int { return int(b[1])<<8 | int(b[2]) }

func (m *model) sectors() int {
	n := 0
	for _, b := range m.list {
		n += journal.Need(len(b))
	}
	return n
}

// write is the chapter's: once compacted, if there is no room.
func (m *model) write(b []byte) api.Errno {
	if len(b) > api.MaxLog {
		return api.ErrArg
	}
	if m.sectors()+journal.Need(len(b)) > m.size {
		m.lay(m.counting())
	}
	if m.sectors()+journal.Need(len(b)) > m.size {
		return api.ErrFull
	}
	m.lay(append(slices.Clone(m.list), b))
	return api.OK
}

func (m *model) lay(list [][]byte) {
	m.list = list
	m.past = append(m.past, list)
}

// counting is the entries that count yet, found from the last one on.
func (m *model) counting() [][]byte {
	hasCount, last := false, -1
	frozen, over := map[int]int{}, map[int]int{}
	var out [][]byte
	for _, b := range m.list {
		if b[0] == 6 {
			last = int(b[3])<<8 | int(b[4])
		}
	}
	for _, b := range slices.Backward(m.list) {
		counts := true
		switch b[0] {
		case 2:
			counts, hasCount = !hasCount, true
		case 6, 7:
			number := int(b[3])<<8 | int(b[4])
			isGood := slices.ContainsFunc(m.table.Live, func(e tickets.Entry) bool { return e.Id == number })
			counts = number == last || b[0] == 6 && isGood
		case 4:
			counts = over[connOf(b)] == 0
		case 5:
			over[connOf(b)]++
		case 1, 3:
			_, lives := m.conns[connOf(b)]
			counts = lives && frozen[connOf(b)] == 0
			if b[0] == 3 {
				frozen[connOf(b)]++
			}
		}
		if counts {
			out = append([][]byte{b}, out...)
		}
	}
	return out
}

func (m *model) accept(conn int) api.Errno {
	isKnown := slices.ContainsFunc(m.list, func(b []byte) bool { return (b[0] == 4 || b[0] == 5) && connOf(b) == conn })
	switch {
	case conn < 0 || conn > 65535:
		return api.ErrArg
	case isKnown:
		return api.ErrKnown
	case len(m.conns) == 4:
		return api.ErrFull
	}
	e := m.write(joined([]byte{4}, numbers(2, conn)))
	if e == api.OK {
		m.conns[conn] = &side{s: server.New()}
	}
	return e
}

// do does one of server's calls, and what it stands for; whether something was sealed.
func (m *model) do(conn int, c *side, call func(until []int) (server.State, server.Did, api.Errno)) (server.Did, api.Errno) {
	for {
		s, did, e := call(c.until)
		if e != api.ErrGate {
			c.s = s
			for _, x := range did.Seals {
				m.seals = append(m.seals, sealOf(x.Secret, x.Seq))
			}
			return did, e
		}
		if e := m.write(joined([]byte{1}, numbers(2, conn), numbers(2, did.Epoch), numbers(1, did.Until))); e != api.OK {
			return server.Did{}, e
		}
		c.until = append(c.until, make([]int, max(0, did.Epoch+1-len(c.until)))...)
		c.until[did.Epoch] = did.Until
	}
}

// step does something with a copy of a connection, which counts if all is well.
func (m *model) step(conn int, do func(c *side) (host.Out, api.Errno)) (host.Out, api.Errno) {
	c, lives := m.conns[conn]
	if !lives {
		return host.Out{}, api.ErrNone
	}
	next, seals := *c, len(m.seals)
	o, e := do(&next)
	if e == api.OK && next.s.Phase == server.Closed {
		e = m.write(joined([]byte{5}, numbers(2, conn)))
	}
	switch {
	case e != api.OK && len(m.seals) > seals, e == api.OK && next.s.Phase == server.Closed:
		delete(m.conns, conn)
	case e != api.OK:
		c.until = next.until
	default:
		*c = next
	}
	if e != api.OK {
		return host.Out{}, e
	}
	return o, e
}

func (m *model) sends(conn int, call func(s server.State, until []int) (server.State, server.Did, api.Errno)) (host.Out, api.Errno) {
	return m.step(conn, func(c *side) (host.Out, api.Errno) {
		did, e := m.do(conn, c, func(until []int) (server.State, server.Did, api.Errno) { return call(c.s, until) })
		return host.Out{Send: did.Send}, e
	})
}

func (m *model) give(conn int) (host.Out, api.Errno) {
	return m.step(conn, func(c *side) (host.Out, api.Errno) {
		id := m.table.Next
		var secret [32]byte
		did, e := m.do(conn, c, func(until []int) (server.State, server.Did, api.Errno) {
			s, did, psk, e := server.Give(c.s, until, 600, 0, numbers(4, id), tickets.Text(m.table, id))
			secret = psk
			return s, did, e
		})
		if e != api.OK {
			return host.Out{}, e
		}
		if e := m.write(joined([]byte{6}, numbers(4, id), secret[:])); e != api.OK {
			return host.Out{}, e
		}
		m.table, _, _ = tickets.Mint(m.table, secret)
		return host.Out{Send: did.Send}, api.OK
	})
}

func (m *model) take(conn int, b []byte, random [64]byte) (host.Out, api.Errno) {
	return m.step(conn, func(c *side) (host.Out, api.Errno) {
		r := stream.New(joined(c.left, b))
		var o host.Out
		for c.s.Phase != server.Closed {
			kind, body, isThere, wrong := r.Take()
			if wrong == api.OK && !isThere {
				break
			}
			did, e := m.do(conn, c, func(until []int) (server.State, server.Did, api.Errno) {
				switch wrong {
				case api.ErrForm:
					return server.Fail(c.s, until, 10)
				case api.ErrFull:
					return server.Fail(c.s, until, 22)
				}
				return server.Take(c.s, server.Host{Key: key, Chain: chain, Tickets: tickets.Known(m.table)}, until, kind, body, random)
			})
			if e != api.OK {
				return o, e
			}
			if len(did.Used) > 0 {
				table, id, _ := tickets.Use(m.table, did.Used)
				if e := m.write(joined([]byte{7}, numbers(4, id))); e != api.OK {
					return o, e
				}
				m.table = table
			}
			o.Send, o.Data = append(o.Send, did.Send...), append(o.Data, did.Data...)
		}
		c.left = r.Left()
		return o, api.OK
	})
}

func (m *model) freeze(conn int) api.Errno {
	c, lives := m.conns[conn]
	if !lives {
		return api.ErrNone
	}
	if m.count == m.counted {
		if e := m.write(joined([]byte{2}, numbers(4, m.counted+8))); e != api.OK {
			return e
		}
		m.counted += 8
	}
	b, _ := snap.Put(c.s, 3)
	b, _ = vault.Seal(vaultKey(), vault.Note{Count: m.count, Conn: conn, Generation: c.generation + 1}, joined(numbers(2, len(c.left)), c.left, b))
	m.seals = append(m.seals, countOf(m.count))
	m.count++
	e := m.write(joined([]byte{3}, numbers(2, conn), b))
	if e == api.OK {
		c.generation++
		c.until = nil
	}
	return e
}

// next is the model of who recovers from a list, and whom it finds.
func (m *model) next(list [][]byte) (*model, []host.Found) {
	n := newModel(m.size)
	n.list = list
	wrote := map[int]int{} // kinds of what stands behind a beginning: 4 alone, or a snapshot, or numbers behind
	for _, b := range list {
		switch b[0] {
		case 2:
			n.counted = int(b[3])<<8 | int(b[4])
			n.count = n.counted
		case 6:
			n.table.Next = int(b[3])<<8 | int(b[4])
			n.table, _, _ = tickets.Mint(n.table, [32]byte(b[5:]))
		case 7:
			id := int(b[3])<<8 | int(b[4])
			n.table.Live = slices.DeleteFunc(slices.Clone(n.table.Live), func(e tickets.Entry) bool { return e.Id == id })
		case 3:
			note, text, _ := vault.Open(vaultKey(), b[3:])
			k := 2 + int(text[0])<<8 + int(text[1])
			s, _, _ := snap.Get(text[k:])
			n.conns[connOf(b)] = &side{s: s, left: text[2:k], generation: note.Generation}
			wrote[connOf(b)] = 3
		default:
			wrote[connOf(b)] = int(b[0])
		}
	}
	var found []host.Found
	for _, conn := range slices.Sorted(maps.Keys(wrote)) {
		if wrote[conn] != 3 {
			delete(n.conns, conn)
		}
		if wrote[conn] != 5 {
			outcome := host.Aborted
			if wrote[conn] == 3 {
				outcome = host.Resumed
			}
			found = append(found, host.Found{Conn: conn, Outcome: outcome})
		}
	}
	for _, f := range found {
		if f.Outcome == host.Aborted {
			n.abort(f.Conn)
		}
	}
	return n, found
}

// abort writes an end; if there is no room, in place of the beginning.
func (m *model) abort(conn int) {
	list := append(slices.Clone(m.list), joined([]byte{5}, numbers(2, conn)))
	if m.sectors() < m.size {
		m.lay(list)
		return
	}
	m.list = list
	m.lay(m.counting())
}
