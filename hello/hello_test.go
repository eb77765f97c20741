package hello_test

import (
	"bytes"
	"slices"
	"testing"

	"relay/hello"
	"relay/probe"
)

const retry = "cf21ad74e59a6111be1d8c021e65b891c2a211167abb8c5e079e09e2c8a8339c"

// joined is all, side by side.
func joined(all ...[]byte) []byte { return slices.Concat(all...) }

// vector is all, side by side, behind its count in so many bytes.
func vector(width int, all ...[]byte) []byte {
	b := joined(all...)
	head := []byte{byte(len(b) >> 24), byte(len(b) >> 16), byte(len(b) >> 8), byte(len(b))}
	return append(head[4-width:], b...)
}

// extension is one of a kind.
func extension(kind int, body ...[]byte) []byte {
	return joined([]byte{byte(kind >> 8), byte(kind)}, vector(2, body...))
}

// hex is the bytes in base 16.
func hex(s string) []byte { return probe.Hex(s) }

// rawClient is a client's bytes with whatever extensions.
func rawClient(extensions ...[]byte) []byte {
	return joined(hex("0303"), probe.Bytes(32, 1), hex("00"+"00021303"+"0100"), vector(2, extensions...))
}

// rawServer is a server's bytes with whatever extensions; rawRetry a retry's.
func rawServer(extensions ...[]byte) []byte {
	return joined(hex("0303"), probe.Bytes(32, 1), hex("00"+"1303"+"00"), vector(2, extensions...))
}

func rawRetry(extensions ...[]byte) []byte {
	return joined(hex("0303"+retry+"00"+"1303"+"00"), vector(2, extensions...))
}

func sameShare(a, b hello.Share) bool { return a.Group == b.Group && bytes.Equal(a.Key, b.Key) }

func sameId(a, b hello.Id) bool { return a.Age == b.Age && bytes.Equal(a.Ticket, b.Ticket) }

// sameClient, sameServer: nil and no bytes are one.
func sameClient(a, b hello.Client) bool {
	return a.Random == b.Random && bytes.Equal(a.Session, b.Session) &&
		slices.Equal(a.Suites, b.Suites) && slices.Equal(a.Versions, b.Versions) &&
		slices.Equal(a.Groups, b.Groups) && slices.Equal(a.Schemes, b.Schemes) &&
		slices.EqualFunc(a.Shares, b.Shares, sameShare) && bytes.Equal(a.Cookie, b.Cookie) &&
		bytes.Equal(a.Modes, b.Modes) && slices.EqualFunc(a.Ids, b.Ids, sameId) &&
		slices.EqualFunc(a.Binders, b.Binders, bytes.Equal)
}

func sameServer(a, b hello.Server) bool {
	return a.Random == b.Random && bytes.Equal(a.Session, b.Session) && a.Suite == b.Suite && a.Version == b.Version &&
		sameShare(a.Share, b.Share) && a.Retry == b.Retry && bytes.Equal(a.Cookie, b.Cookie) && a.Psk == b.Psk
}

// numbers is n numbers from 0 to 65535, others for each seed.
func numbers(n, seed int) []int {
	var out []int
	b := probe.Bytes(2*n, seed)
	for i := range n {
		out = append(out, int(b[2*i])<<8|int(b[2*i+1]))
	}
	return out
}

// shares, ids and binders are n of them, of so many bytes each.
func shares(n, size int) []hello.Share {
	var out []hello.Share
	for i := range n {
		out = append(out, hello.Share{Group: i * 21845, Key: probe.Bytes(size, i)})
	}
	return out
}

func ids(n, size int) []hello.Id {
	var out []hello.Id
	for i := range n {
		out = append(out, hello.Id{Ticket: probe.Bytes(size, i+7), Age: (1<<32 - 1) / (i + 1)})
	}
	return out
}

func binders(n, size int) [][]byte {
	var out [][]byte
	for i := range n {
		out = append(out, probe.Bytes(size, i+9))
	}
	return out
}

// least has as little as a client may have; full so much of each as may be (tickets but of some bytes).
func least() hello.Client {
	return hello.Client{Random: probe.Array(1), Suites: []int{0x1303}}
}

func full() hello.Client {
	return hello.Client{
		Random: probe.Array(2), Session: probe.Bytes(32, 3), Suites: numbers(8, 4), Versions: numbers(4, 5),
		Groups: numbers(4, 6), Schemes: numbers(4, 7), Shares: shares(4, 64), Cookie: probe.Bytes(64, 8),
		Modes: probe.Bytes(4, 9), Ids: ids(4, 20), Binders: binders(4, 32),
	}
}

// answer, again and both are servers: one that answers, one that asks for a share, one that has a cookie, too.
func answer() hello.Server {
	return hello.Server{Random: probe.Array(1), Session: probe.Bytes(32, 2), Suite: 0x1303, Version: 0x0304, Share: hello.Share{Group: 0x1d, Key: probe.Bytes(32, 3)}, Psk: 1}
}

func again() hello.Server {
	return hello.Server{Suite: 0x1303, Version: 0x0304, Share: hello.Share{Group: 0x1d}, Retry: true, Psk: -1}
}

func both() hello.Server {
	s := again()
	s.Session, s.Cookie = probe.Bytes(5, 1), probe.Bytes(64, 2)
	return s
}

// TestEmptyAndNil: what is handed in may be nil or of no bytes: it is one.
func TestEmptyAndNil(t *testing.T) {
	c := least()
	want, _ := hello.PutClient(c)
	c.Session, c.Versions, c.Groups, c.Schemes, c.Shares = []byte{}, []int{}, []int{}, []int{}, []hello.Share{}
	c.Cookie, c.Modes, c.Ids, c.Binders = []byte{}, []byte{}, []hello.Id{}, [][]byte{}
	if b, e := hello.PutClient(c); !bytes.Equal(b, want) || e != 0 || len(b) == 0 {
		t.Errorf("%x %d", b, e)
	}
	s := hello.Server{Psk: -1}
	want, _ = hello.PutServer(s)
	s.Session, s.Cookie, s.Share.Key = []byte{}, []byte{}, []byte{}
	if b, e := hello.PutServer(s); !bytes.Equal(b, want) || e != 0 || len(b) == 0 {
		t.Errorf("%x %d", b, e)
	}
}
