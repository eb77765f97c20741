package host_test

import (
	"bytes"
	"math/rand"
	"reflect"
	"slices"
	"testing"

	"relay/api"
	"relay/disk"
	"relay/host"
	"relay/journal"
	"relay/peer"
	"relay/probe"
	"relay/record"
	"relay/server"
	"relay/sha"
)

// key and chain are those of all tests' hosts.
var (
	key   = probe.Array(5)
	chain = [][]byte{{1}}
)

// vaultKey and ticketKey are what the chapter makes of key.
func vaultKey() [32]byte { return sha.Mac(key[:], []byte("vault")) }

func ticketKey() [32]byte { return sha.Mac(key[:], []byte("tickets")) }

// random is 64 bytes, others for each seed.
func random(seed int) [64]byte { return [64]byte(probe.Bytes(64, seed)) }

// joined is all, side by side.
func joined(all ...[]byte) []byte { return slices.Concat(all...) }

func made(t *testing.T, sectors int) *disk.Disk {
	t.Helper()
	d, e := disk.New(sectors)
	if e != api.OK {
		t.Fatal(e)
	}
	return d
}

// begun is a Host on a new disk.
func begun(t *testing.T, sectors int) (*host.Host, *disk.Disk) {
	t.Helper()
	d := made(t, sectors)
	h, e := host.Begin(d, key, chain)
	if e != api.OK || !h.On() {
		t.Fatal(e)
	}
	return h, d
}

// recovered is the next Host on a disk, and whom it finds.
func recovered(t *testing.T, d *disk.Disk, want ...host.Found) *host.Host {
	t.Helper()
	h, list, e := host.Recover(d, key, chain)
	if e != api.OK || !h.On() || !slices.Equal(list, want) {
		t.Fatalf("found %v, %d, not %v", list, e, want)
	}
	return h
}

// resumed and aborted are whom Recover finds.
func resumed(conn int) host.Found { return host.Found{Conn: conn, Outcome: host.Resumed} }

func aborted(conn int) host.Found { return host.Found{Conn: conn, Outcome: host.Aborted} }

// laid is a disk whose journal has these entries.
func laid(t *testing.T, sectors int, list ...[]byte) *disk.Disk {
	t.Helper()
	d := made(t, sectors)
	j, e := journal.Format(d)
	for _, b := range list {
		if e == api.OK {
			e = j.Append(b)
		}
	}
	if e != api.OK {
		t.Fatal(e)
	}
	return d
}

// written is what stands in a disk's journal.
func written(t *testing.T, d *disk.Disk) [][]byte {
	t.Helper()
	j, e := journal.Open(d)
	if e != api.OK {
		t.Fatal(e)
	}
	return j.Entries()
}

// room is how many sectors of a disk's journal are free.
func room(t *testing.T, d *disk.Disk) int {
	t.Helper()
	j, e := journal.Open(d)
	if e != api.OK {
		t.Fatal(e)
	}
	return j.Room()
}

// hold fails, if two lists of entries aren't the same.
func hold(t *testing.T, what string, got [][]byte, want ...[]byte) {
	t.Helper()
	for i := range max(len(got), len(want)) {
		if i >= len(got) || i >= len(want) || !bytes.Equal(got[i], want[i]) {
			t.Errorf("%s: %d entries, not %d; from %d on %x\nnot %x", what, len(got), len(want), i, got[min(i, len(got)):], want[min(i, len(want)):])
			return
		}
	}
}

// same holds States against each other; nil and empty lists are one.
func same(a, b server.State) bool {
	return reflect.DeepEqual(plain(a), plain(b))
}

func plain(s server.State) server.State {
	s.Log, s.Part, s.Used = joined(s.Log, []byte{0}), joined(s.Part, []byte{0}), joined(s.Used, []byte{0})
	return s
}

// state is that of a connection that lives.
func state(t *testing.T, h *host.Host, conn int) server.State {
	t.Helper()
	s, ok := h.State(conn)
	if !ok {
		t.Fatalf("%d doesn't live", conn)
	}
	return s
}

// ok fails, if there is an error.
func ok(t *testing.T, what string, e api.Errno) {
	t.Helper()
	if e != api.OK {
		t.Fatalf("%s: %d", what, e)
	}
}

// sent is what a step sends, if it has no error.
func sent(t *testing.T, what string) func(host.Out, api.Errno) []byte {
	return func(o host.Out, e api.Errno) []byte {
		t.Helper()
		ok(t, what, e)
		return o.Send
	}
}

// link is a connection of a Host to an honest client.
type link struct {
	p peer.Peer
}

// hear brings bytes to the client, and tells what it sends.
func (l *link) hear(t *testing.T, b []byte) []byte {
	t.Helper()
	p, out, e := peer.Take(l.p, b)
	ok(t, "the client hears", e)
	l.p = p
	return out
}

// plan is a client that sends a share.
func plan() peer.Plan { return peer.Plan{Key: key, Share: true} }

// greeted is a connection that was accepted, and whose client's bytes are told.
func greeted(t *testing.T, h *host.Host, conn int, p peer.Plan) (*link, []byte) {
	t.Helper()
	ok(t, "Accept", h.Accept(conn))
	l := &link{}
	var b []byte
	l.p, b = peer.Hello(p, random(conn+100))
	return l, b
}

// opened is a connection that is open on both sides.
func opened(t *testing.T, h *host.Host, conn int, p peer.Plan) *link {
	t.Helper()
	l, b := greeted(t, h, conn, p)
	for range 3 {
		b = l.hear(t, sent(t, "Take")(h.Take(conn, b, random(conn))))
	}
	if l.p.Phase != peer.Open || state(t, h, conn).Phase != server.Open {
		t.Fatalf("%d isn't open", conn)
	}
	return l
}

// say is what a client sends of a text.
func (l *link) say(t *testing.T, text string) []byte {
	t.Helper()
	p, b, e := peer.Write(l.p, []byte(text))
	ok(t, "the client writes", e)
	l.p = p
	return b
}

// turn is what a client sends of a key update.
func (l *link) turn(t *testing.T, ask bool) []byte {
	t.Helper()
	p, b, e := peer.Update(l.p, ask)
	ok(t, "the client turns", e)
	l.p = p
	return b
}

// ticketed is a client that offers the last ticket that came.
func (l *link) ticketed() peer.Plan {
	n := l.p.Tickets[len(l.p.Tickets)-1]
	return peer.Plan{Key: key, Share: true, Ticket: n.Ticket, Psk: n.Psk}
}

// sealOf is by what a record of a secret is sealed.
func sealOf(secret [32]byte, seq int) host.Seal {
	k := record.Derive(secret)
	return host.Seal{Key: k.Key, Nonce: record.Nonce(k, uint64(seq))}
}

// countOf is by what a snapshot is sealed.
func countOf(count int) host.Seal {
	return host.Seal{Key: vaultKey(), Nonce: [12]byte{8: byte(count >> 24), 9: byte(count >> 16), 10: byte(count >> 8), 11: byte(count)}}
}

// once fails, if a seal is done twice.
func once(t *testing.T, what string, seals []host.Seal) {
	t.Helper()
	done := map[host.Seal]int{}
	for i, s := range seals {
		if j, ok := done[s]; ok {
			t.Fatalf("%s: seals %d and %d are one", what, j, i)
		}
		done[s] = i
	}
}

// equal: are they the same?
func equal(a, b any) bool { return reflect.DeepEqual(a, b) }

// wildState is any that a snapshot may have.
func wildState(r *rand.Rand) server.State {
	edge := func(most int) int { return []int{0, most, most - 1, r.Intn(most + 1)}[r.Intn(4)] }
	s := server.State{
		Phase: r.Intn(5), InSeq: edge(64), OutSeq: edge(64), InEpoch: edge(65535), OutEpoch: edge(65535), Sealed: r.Intn(2) == 0, Alert: r.Intn(257) - 1,
		In: probe.Array(r.Int()), Out: probe.Array(r.Int()), Later: probe.Array(r.Int()),
		Log: probe.Bytes(r.Intn(900), r.Int()), Part: probe.Bytes(r.Intn(9), r.Int()), Used: probe.Bytes(r.Intn(20), r.Int()),
	}
	return s
}
