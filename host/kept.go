package host

import (
	"slices"

	"relay/api"
	"relay/disk"
	"relay/journal"
	"relay/tickets"
)

// none is where there is no entry, and no ticket.
const none = -1

// empty is a journal without entries, but of the vault's counts that earlier Hosts reserved there, and up to where they did: with a key that is the same none of them may be used again. That entry is written in one go with what it stands in place of, so that power can't part them.
func empty(d *disk.Disk) (*journal.Journal, int, api.Errno) {
	j, _ := journal.Open(d)
	count := 0
	for _, b := range j.Entries() {
		if e, ok := read(b); ok && e.kind == counted {
			count = max(count, e.until)
		}
	}
	if count > 0 {
		return j, count, j.Compact([][]byte{putCounted(count)})
	}
	j, e := journal.Format(d)
	return j, 0, e
}

// write puts an entry into the journal, which is compacted once, if there is no room.
func (h *Host) write(b []byte) api.Errno {
	e := h.journal.Append(b)
	if e == api.ErrFull {
		e = h.journal.Compact(h.kept(h.journal.Entries()))
		if e == api.OK {
			e = h.journal.Append(b)
		}
	}
	return h.stop(e)
}

// abort writes that a connection ended that doesn't live. If there is no room, what it wrote makes room, in one go: power mustn't take both.
func (h *Host) abort(conn int) api.Errno {
	b := putConn(ended, conn)
	e := h.journal.Append(b)
	if e == api.ErrFull {
		e = h.journal.Compact(h.kept(append(h.journal.Entries(), b)))
	}
	return e
}

// isKnown: does a connection live, or did it?
func (h *Host) isKnown(conn int) bool {
	return slices.ContainsFunc(h.journal.Entries(), func(b []byte) bool {
		e, _ := read(b)
		return e.conn == conn && (e.kind == began || e.kind == ended)
	})
}

// last is what ends others: the places of the last entries of a kind, the number of the last ticket, each connection's last snapshot, and which ended.
type last struct {
	counted, minted, ticket int
	frozen                  map[int]int
	ended                   map[int]struct{}
}

func lastOf(all [][]byte) last {
	l := last{counted: none, minted: none, ticket: none, frozen: map[int]int{}, ended: map[int]struct{}{}}
	for i, b := range all {
		switch e, _ := read(b); e.kind {
		case counted:
			l.counted = i
		case minted:
			l.minted, l.ticket = i, e.number
		case frozen:
			l.frozen[e.conn] = i
		case ended:
			l.ended[e.conn] = struct{}{}
		}
	}
	return l
}

// kept is those entries that count yet, in their order.
func (h *Host) kept(all [][]byte) [][]byte {
	l := lastOf(all)
	var out [][]byte
	for i, b := range all {
		if e, _ := read(b); h.isKept(l, i, e) {
			out = append(out, b)
		}
	}
	return out
}

// isKept: does the entry at place i count yet? That a connection began counts till it is written that it ended, also if it doesn't live any more: else nobody would find it.
func (h *Host) isKept(l last, i int, e entry) bool {
	_, lives := h.conns[e.conn]
	switch e.kind {
	case reserved:
		return lives && i >= l.frozen[e.conn]
	case counted:
		return i == l.counted
	case frozen:
		return lives && i == l.frozen[e.conn]
	case began:
		_, isEnded := l.ended[e.conn]
		return !isEnded
	case minted:
		return i == l.minted || h.isLive(e.number)
	case used:
		return e.number == l.ticket
	}
	return true
}

// isLive: may a ticket be used?
func (h *Host) isLive(number int) bool {
	return slices.ContainsFunc(h.table.Live, func(t tickets.Entry) bool { return t.Id == number })
}
