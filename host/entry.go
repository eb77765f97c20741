package host

import (
	"relay/api"
	"relay/cursor"
)

// Kinds of entries.
const (
	reserved = 1 // numbers of an epoch
	counted  = 2 // the vault's counts
	frozen   = 3
	began    = 4
	ended    = 5
	minted   = 6
	used     = 7
)

// entry is what an entry of the journal tells; which fields it has hangs on its kind.
type entry struct {
	kind, conn, number int
	until              int // of the vault's counts
	secret             [32]byte
	sealed             []byte
}

// read is what b tells; false, if nothing does so.
func read(b []byte) (entry, bool) {
	r := cursor.New(b)
	e := entry{kind: r.Uint(1)}
	switch e.kind {
	case reserved:
		e.conn = r.Uint(2)
		r.Bytes(3) // which numbers they are doesn't count, but that there are some
	case counted:
		e.until = r.Uint(4)
	case frozen:
		e.conn = r.Uint(2)
		e.sealed = r.Bytes(r.Left())
	case began, ended:
		e.conn = r.Uint(2)
	case minted:
		e.number = r.Uint(4)
		copy(e.secret[:], r.Bytes(len(e.secret)))
	case used:
		e.number = r.Uint(4)
	default:
		return entry{}, false
	}
	return e, r.Done() == api.OK
}

// putReserved: an epoch's numbers of a connection up to one; putCounted: the vault's counts up to one; putFrozen: a sealed snapshot; putConn: a connection began, or ended; putMinted, putUsed: a ticket is.
func putReserved(conn, epoch, until int) []byte {
	b := putConn(reserved, conn)
	b = cursor.PutUint(b, epoch, 2)
	return cursor.PutUint(b, until, 1)
}

func putCounted(until int) []byte { return cursor.PutUint([]byte{counted}, until, 4) }

func putFrozen(conn int, sealed []byte) []byte { return append(putConn(frozen, conn), sealed...) }

func putConn(kind, conn int) []byte { return cursor.PutUint([]byte{byte(kind)}, conn, 2) }

func putMinted(number int, secret [32]byte) []byte {
	return append(cursor.PutUint([]byte{minted}, number, 4), secret[:]...)
}

func putUsed(number int) []byte { return cursor.PutUint([]byte{used}, number, 4) }
