package host

import (
	"relay/api"
	"relay/cursor"
	"relay/snap"
	"relay/vault"
)

const (
	// mostLeft is how many bytes have room ahead of a snapshot.
	mostLeft = 65535
	// mostCount is the greatest number that the vault seals by.
	mostCount = 1<<31 - 1
)

// freeze writes a snapshot of a connection. Its count isn't used again, whether it can be written or not.
func (h *Host) freeze(number int, c *conn) api.Errno {
	b, e := putSnapshot(c)
	if e != api.OK {
		return e
	}
	if e := h.reserveCount(); e != api.OK {
		return e
	}
	sealed, e := vault.Seal(h.vault, vault.Note{Count: h.count, Conn: number, Generation: c.generation + 1}, b)
	if e != api.OK {
		return e
	}
	h.seals = append(h.seals, Seal{Key: h.vault, Nonce: countNonce(h.count)})
	h.count++
	if e := h.write(putFrozen(number, sealed)); e != api.OK {
		return e
	}
	c.generation++
	// What was reserved stands ahead of the snapshot in the journal: whoever finds it takes none as reserved.
	c.until = nil
	return api.OK
}

// reserveCount reserves counts, if the next one isn't.
func (h *Host) reserveCount() api.Errno {
	switch {
	case h.count > mostCount:
		return api.ErrArg
	case h.count < h.counted:
		return api.OK
	}
	until := h.count + api.Block
	if e := h.write(putCounted(until)); e != api.OK {
		return e
	}
	h.counted = until
	return api.OK
}

// thaw is a connection as a snapshot has it; false, if it isn't this one's, or can't be opened or read.
func (h *Host) thaw(number int, sealed []byte) (*conn, bool) {
	note, b, e := vault.Open(h.vault, sealed)
	if e != api.OK || note.Conn != number {
		return nil, false
	}
	r := cursor.New(b)
	left := r.Vector(2, 0, mostLeft)
	state, _, e := snap.Get(r.Bytes(r.Left()))
	if r.Done() != api.OK || e != api.OK {
		return nil, false
	}
	return &conn{state: state, left: left, generation: note.Generation}, true
}

// putSnapshot is what is sealed of a connection.
func putSnapshot(c *conn) ([]byte, api.Errno) {
	b, e := snap.Put(c.state, snap.Newest)
	if e != api.OK {
		return nil, e
	}
	return append(cursor.PutVector(nil, c.left, 2), b...), api.OK
}

// countNonce is what the vault seals by.
func countNonce(count int) [12]byte {
	return [12]byte(cursor.PutUint(make([]byte, api.NonceSize-4), count, 4))
}
