package tickets_test

import (
	"bytes"
	"crypto/hmac"
	"crypto/sha256"
	"encoding/binary"
	"math"
	"reflect"
	"slices"
	"testing"

	"relay/api"
	"relay/probe"
	"relay/server"
	"relay/tickets"
)

// last is the greatest number there is.
const last = 1<<31 - 1

// laid is Text, by the chapter's words and another library; also of numbers that can't be.
func laid(key [32]byte, id int) []byte {
	b := binary.BigEndian.AppendUint32(nil, uint32(id))
	mac := hmac.New(sha256.New, key[:])
	mac.Write(b)
	return append(b, mac.Sum(nil)[:12]...)
}

// table is a Table whose tickets have these numbers, each with a secret of its own.
func table(seed, next int, ids ...int) tickets.Table {
	t := tickets.Table{Key: probe.Array(seed), Next: next}
	for _, id := range ids {
		t.Live = append(t.Live, tickets.Entry{Id: id, Psk: probe.Array(id%1000 + 7)})
	}
	return t
}

// same: are two Tables so, where an empty list is as none?
func same(a, b tickets.Table) bool {
	return a.Key == b.Key && a.Next == b.Next && slices.Equal(a.Live, b.Live)
}

// right are Tables that are Right, at all edges; wrong are some that aren't.
func right() []tickets.Table {
	return []tickets.Table{
		{}, table(1, 0), table(1, 1), table(1, 1, 0), table(2, 7, 0, 3, 6), table(2, 8, 0, 1, 2, 3, 4, 5, 6, 7),
		table(3, 9, 1, 2, 3, 4, 5, 6, 7, 8), table(3, 300, 4, 8, 256, 299), table(4, last), table(4, last, last-1), table(4, last-1, 0, last-2),
		table(5, last, 0, 1, 2, 3, 4, 5, 6, last-1),
	}
}

func wrong() []tickets.Table {
	return []tickets.Table{
		table(1, -1), table(1, math.MinInt), table(1, last+1), table(1, math.MaxInt), table(1, 1<<32), table(1, -1, -2),
		table(2, 0, 0), table(2, 5, 5), table(2, 5, 6), table(2, 5, 0, 1, 5), table(2, 5, math.MaxInt), table(2, last, last),
		table(3, 5, -1), table(3, 5, -1, 0, 1), table(3, 5, math.MinInt), table(3, 5, math.MinInt, 2), table(3, 5, 0, -1),
		table(4, 9, 1, 1), table(4, 9, 0, 0), table(4, 9, 2, 1), table(4, 9, 0, 3, 2, 4), table(4, 9, 0, 1, 2, 3, 4, 4),
		table(5, 9, 0, 1, 2, 3, 4, 5, 6, 7, 8), table(5, 99, 10, 20, 30, 40, 50, 60, 70, 80, 90), table(5, 99, slices.Repeat([]int{1}, 100)...),
	}
}

// TestNew: P20.1.
func TestNew(t *testing.T) {
	for seed := range 5 {
		x := tickets.New(probe.Array(seed))
		if !same(x, tickets.Table{Key: probe.Array(seed)}) || !tickets.Right(x) || len(tickets.Known(x)) != 0 {
			t.Errorf("%v", x)
		}
	}
}

// TestExample: P20.1 and P20.2.
func TestExample(t *testing.T) {
	x, n, e := tickets.Mint(tickets.New(probe.Array(1)), probe.Array(2))
	if n != 0 || e != api.OK {
		t.Fatal(n, e)
	}
	ticket := tickets.Text(x, 0)
	x, n, e = tickets.Use(x, ticket)
	if n != 0 || e != api.OK {
		t.Error(n, e)
	}
	if _, n, e = tickets.Use(x, ticket); n != 0 || e != api.ErrKnown {
		t.Error(n, e)
	}
}

// TestKnownText: P20.1, of another library.
func TestKnownText(t *testing.T) {
	key := [32]byte(probe.Hex("000102030405060708090a0b0c0d0e0f101112131415161718191a1b1c1d1e1f"))
	for id, want := range map[int]string{
		0:          "00000000a86acbcbc29b8fa83c83582d",
		0x01020304: "01020304e3ba74ad607691672b924220",
		last:       "7fffffffbe031143edb5fe6389646fc7",
	} {
		if b := tickets.Text(tickets.New(key), id); !bytes.Equal(b, probe.Hex(want)) {
			t.Errorf("%d: %x", id, b)
		}
	}
}

// TestText: P20.1; it hangs on the key and the number alone.
func TestText(t *testing.T) {
	for _, x := range slices.Concat(right(), wrong()) {
		for _, id := range []int{0, 1, 5, 255, 256, 65536, 1 << 24, last - 1, last} {
			if b := tickets.Text(x, id); !bytes.Equal(b, laid(x.Key, id)) {
				t.Errorf("%v, %d: %x", x, id, b)
			}
		}
		for _, id := range []int{math.MinInt, -1 << 31, -1, last + 1, 1<<32 - 1, 1 << 32, math.MaxInt} {
			if b := tickets.Text(x, id); len(b) != 0 {
				t.Errorf("%v, %d: %x", x, id, b)
			}
		}
	}
}

// TestRight: P20.1; those that aren't have answers of their own.
func TestRight(t *testing.T) {
	for _, x := range right() {
		if !tickets.Right(x) {
			t.Errorf("%v isn't Right", x)
		}
	}
	for _, x := range wrong() {
		if tickets.Right(x) {
			t.Errorf("%v is Right", x)
		}
		if y, n, e := tickets.Mint(x, probe.Array(1)); !same(y, tickets.Table{}) || n != 0 || e != api.ErrArg {
			t.Errorf("%v: %v, %d, %d", x, y, n, e)
		}
		for _, ticket := range [][]byte{nil, []byte("none"), laid(x.Key, 0), laid(x.Key, 1), laid(x.Key, x.Next-1), laid(x.Key, x.Next)} {
			if y, n, e := tickets.Use(x, ticket); !same(y, tickets.Table{}) || n != 0 || e != api.ErrArg {
				t.Errorf("%v, %x: %v, %d, %d", x, ticket, y, n, e)
			}
		}
		if all := tickets.Known(x); len(all) != 0 {
			t.Errorf("%v: %v", x, all)
		}
	}
}

// TestMint: P20.1; of nine the first one is gone.
func TestMint(t *testing.T) {
	for _, x := range right() {
		psk := probe.Array(99)
		y, n, e := tickets.Mint(x, psk)
		if x.Next == last {
			if !same(y, tickets.Table{}) || n != 0 || e != api.ErrFull {
				t.Errorf("%v: %v, %d, %d", x, y, n, e)
			}
			continue
		}
		want := tickets.Table{Key: x.Key, Next: x.Next + 1, Live: append(slices.Clone(x.Live), tickets.Entry{Id: x.Next, Psk: psk})}
		if len(want.Live) == 9 {
			want.Live = want.Live[1:]
		}
		if !same(y, want) || n != x.Next || e != api.OK || !tickets.Right(y) {
			t.Errorf("%v: %v, %d, %d", x, y, n, e)
		}
	}
}

// TestMintToTheLast: P20.1; the last number that is told is one below the last one there is.
func TestMintToTheLast(t *testing.T) {
	x := table(1, last-2)
	for _, want := range []int{last - 2, last - 1} {
		y, n, e := tickets.Mint(x, probe.Array(1))
		if n != want || e != api.OK {
			t.Fatal(n, e)
		}
		x = y
	}
	if _, n, e := tickets.Mint(x, probe.Array(1)); n != 0 || e != api.ErrFull {
		t.Error(n, e)
	}
	if y, n, e := tickets.Use(x, laid(x.Key, last-1)); n != last-1 || e != api.OK || len(y.Live) != 1 {
		t.Error(y, n, e)
	}
}

// TestUse: P20.1, of each number around all edges.
func TestUse(t *testing.T) {
	for _, x := range right() {
		ids := []int{0, 1, 2, 3, 4, 5, 6, 7, 8, 9, 255, 256, 257, 299, 300, last - 2, last - 1, last}
		for _, id := range ids {
			want, number, errno := tickets.Table{}, 0, api.ErrKnown
			at := slices.IndexFunc(x.Live, func(e tickets.Entry) bool { return e.Id == id })
			if at >= 0 {
				want, number, errno = x, id, api.OK
				want.Live = slices.Delete(slices.Clone(x.Live), at, at+1)
			}
			if id >= x.Next {
				errno = api.ErrNone
			}
			if y, n, e := tickets.Use(x, laid(x.Key, id)); !same(y, want) || n != number || e != errno {
				t.Errorf("%v, %d: %v, %d, %d", x, id, y, n, e)
			}
		}
	}
}

// TestNoTickets: P20.1; texts that are no number's, also of numbers that were used or weren't minted yet.
func TestNoTickets(t *testing.T) {
	x := table(1, 9, 1, 2, 3, 5, 8)
	none := func(what string, ticket []byte) {
		t.Helper()
		if y, n, e := tickets.Use(x, ticket); !same(y, tickets.Table{}) || n != 0 || e != api.ErrNone {
			t.Errorf("%s: %v, %d, %d", what, y, n, e)
		}
	}
	none("nil", nil)
	for _, id := range []int{0, 2, 4, 8, 9, 300} {
		ticket := laid(x.Key, id)
		for at := range ticket {
			for bit := range 8 {
				bent := bytes.Clone(ticket)
				bent[at] ^= 1 << bit
				none("a bent one", bent)
			}
		}
		for n := range ticket {
			none("a part", ticket[:n])
			none("an end", ticket[n+1:])
		}
		none("a byte more", append(bytes.Clone(ticket), 0))
		none("two", append(bytes.Clone(ticket), ticket...))
		none("one of another key", laid(probe.Array(2), id))
	}
	for _, id := range []int{1 << 31, 1<<31 + 2, 1<<32 - 1} {
		none("of a number that can't be", laid(x.Key, id))
	}
	for seed := range 1000 {
		none("any bytes", probe.Bytes(16, seed))
	}
	none("many bytes", make([]byte, 1<<16))
}

// TestKnown: P20.1, in order.
func TestKnown(t *testing.T) {
	for _, x := range right() {
		var want []server.Known
		for _, e := range x.Live {
			want = append(want, server.Known{Ticket: laid(x.Key, e.Id), Psk: e.Psk})
		}
		if all := tickets.Known(x); len(all) != len(want) || len(want) > 0 && !reflect.DeepEqual(all, want) {
			t.Errorf("%v: %v", x, all)
		}
	}
}

// TestOnceAtMost: P20.2, in long rows of calls, against what happened.
func TestOnceAtMost(t *testing.T) {
	used := 0
	for seed := range 40 {
		x := tickets.New(probe.Array(seed))
		var live []int
		for i, pick := range probe.Bytes(400, seed) {
			if pick%5 < 2 {
				y, n, e := tickets.Mint(x, probe.Array(i))
				if n != x.Next || e != api.OK {
					t.Fatalf("%v: %v, %d, %d", x, y, n, e)
				}
				x, live = y, append(live, n)
				live = live[max(len(live)-8, 0):]
				continue
			}
			id := int(pick/5)%(x.Next+2) - int(pick)%2
			y, n, e := tickets.Use(x, laid(x.Key, id))
			at := slices.Index(live, id)
			if (e == api.OK) != (at >= 0) || e == api.OK && n != id {
				t.Fatalf("%v, %d: %d, %d", x, id, n, e)
			}
			if e == api.OK {
				x, live = y, slices.Delete(live, at, at+1)
				used++
			}
			if !tickets.Right(x) || len(tickets.Known(x)) != len(live) {
				t.Fatalf("%v: %v", x, live)
			}
		}
	}
	if used < 500 {
		t.Errorf("%d were used", used)
	}
}

// lend is a Table whose list has spare room, and what stands in all of it.
func lend(x tickets.Table) (tickets.Table, []tickets.Entry) {
	all := slices.Concat(x.Live, []tickets.Entry{{Id: 1234}, {Id: 5678, Psk: probe.Array(8)}})
	x.Live = all[:len(x.Live)]
	return x, all
}

// TestMemory: P20.3.
func TestMemory(t *testing.T) {
	for i, was := range right() {
		x, all := lend(was)
		before := slices.Clone(all)
		ticket := probe.Lend(laid(x.Key, max(x.Next-1, 0)))
		minted, _, _ := tickets.Mint(x, probe.Array(1))
		wantMinted, _, _ := tickets.Mint(right()[i], probe.Array(1))
		used, _, _ := tickets.Use(x, ticket.Bytes())
		wantUsed, _, _ := tickets.Use(right()[i], ticket.Bytes())
		known, wantKnown := tickets.Known(x), tickets.Known(right()[i])
		tickets.Right(x)
		tickets.Text(x, 0)
		if !slices.Equal(all, before) || !ticket.Kept() {
			t.Errorf("Table %d was changed: %v", i, all)
		}
		ticket.Spoil()
		for k := range all {
			all[k] = tickets.Entry{Id: -k}
		}
		if !same(minted, wantMinted) || !same(used, wantUsed) || len(known) > 0 && !reflect.DeepEqual(known, wantKnown) {
			t.Errorf("Table %d is kept: %v, %v, %v", i, minted, used, known)
		}
		spoilAll(minted.Live)
		spoilAll(used.Live)
		for k := range all {
			if all[k].Id != -k {
				t.Errorf("Table %d: answers share memory with it", i)
			}
		}
		if !same(x, tickets.Table{Key: x.Key, Next: x.Next, Live: all[:len(x.Live)]}) {
			t.Errorf("Table %d: %v", i, x)
		}
		for k := range known {
			if !reflect.DeepEqual(known[k], wantKnown[k]) {
				t.Errorf("Table %d: ticket %d shares memory with one ahead", i, k)
			}
			probe.Spoil(known[k].Ticket)
		}
	}
}

// spoilAll makes all entries other ones, those in spare room too.
func spoilAll(list []tickets.Entry) {
	list = list[:cap(list)]
	for i := range list {
		list[i] = tickets.Entry{Id: 77, Psk: probe.Array(77)}
	}
}
