package host

import (
	"maps"
	"slices"

	"relay/api"
	"relay/tickets"
)

// past is what entries tell of a connection: where it stood last, and whether numbers were reserved behind.
type past struct {
	began, ended, reserved bool
	snapshot               *conn
}

// find goes through all entries, and has those connections live that can go on; it tells what becomes of each.
func (h *Host) find() ([]Found, api.Errno) {
	all := map[int]past{}
	for _, b := range h.journal.Entries() {
		if e, ok := read(b); !ok || !h.learn(all, e) {
			return nil, api.ErrForm
		}
	}
	var list []Found
	for _, number := range slices.Sorted(maps.Keys(all)) {
		p := all[number]
		switch {
		case !p.began || p.ended:
		case p.snapshot != nil && !p.reserved:
			h.conns[number] = p.snapshot
			list = append(list, Found{Conn: number, Outcome: Resumed})
		default:
			list = append(list, Found{Conn: number, Outcome: Aborted})
		}
	}
	// Not before it is known which ones live: if there is no room, only their entries are kept.
	for _, found := range list {
		if found.Outcome != Aborted {
			continue
		}
		if e := h.abort(found.Conn); e != api.OK {
			return nil, e
		}
	}
	return list, api.OK
}

// learn goes on by one entry; false, if it can't be, or isn't opened.
func (h *Host) learn(all map[int]past, e entry) bool {
	switch e.kind {
	case counted:
		h.count = max(h.count, e.until)
		h.counted = h.count
		return true
	case minted:
		return h.learnMinted(e)
	case used:
		// One that may not be used any more, as it was one of too many, is as good as used.
		if table, _, errno := tickets.Use(h.table, tickets.Text(h.table, e.number)); errno == api.OK {
			h.table = table
		}
		return true
	}
	p := all[e.conn]
	switch e.kind {
	case began:
		p.began = true
	case ended:
		p.ended = true
	case reserved:
		p.reserved = true
	case frozen:
		c, ok := h.thaw(e.conn, e.sealed)
		if !ok {
			return false
		}
		p.snapshot, p.reserved = c, false
	}
	all[e.conn] = p
	return true
}

// learnMinted has the next ticket be e's: those between were used up, or too many.
func (h *Host) learnMinted(e entry) bool {
	if e.number < h.table.Next {
		return false
	}
	table := h.table
	table.Next = e.number
	table, _, errno := tickets.Mint(table, e.secret)
	if errno != api.OK {
		return false
	}
	h.table = table
	return true
}
