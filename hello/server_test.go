package hello_test

import (
	"bytes"
	"testing"

	"relay/api"
	"relay/hello"
	"relay/probe"
)

// TestServerBytes: P8.1, of each part's place and kind.
func TestServerBytes(t *testing.T) {
	for _, x := range []struct {
		s    hello.Server
		want []byte
	}{
		{hello.Server{Suite: 0x1303, Version: 0x0304, Psk: -1}, joined(hex("0303"), make([]byte, 32), hex("00"+"1303"+"00"+"0006"+"002b00020304"))},
		{hello.Server{Random: probe.Array(1), Session: []byte("s"), Suite: 0x1303, Version: 0x0304, Share: hello.Share{Group: 0x1d, Key: []byte("k")}, Psk: 2},
			joined(hex("0303"), probe.Bytes(32, 1), hex("0173"+"1303"+"00"+"0015"+"002b00020304"+"00330005001d00016b"+"002900020002"))},
		{hello.Server{Suite: 0x1303, Version: 0x0304, Share: hello.Share{Group: 0x1d}, Retry: true, Psk: -1},
			hex("0303" + retry + "00" + "1303" + "00" + "000c" + "002b00020304" + "00330002001d")},
		{hello.Server{Session: []byte("s"), Suite: 0x1303, Version: 0x0304, Share: hello.Share{Group: 0x1d}, Retry: true, Cookie: []byte("c"), Psk: -1},
			hex("0303" + retry + "0173" + "1303" + "00" + "0013" + "002b00020304" + "00330002001d" + "002c0003000163")},
		{hello.Server{Suite: 1, Version: 0, Retry: true, Cookie: []byte("c"), Psk: -1},
			hex("0303" + retry + "00" + "0001" + "00" + "000d" + "002b00020000" + "002c0003000163")},
	} {
		if b, e := hello.PutServer(x.s); !bytes.Equal(b, x.want) || e != api.OK {
			t.Errorf("%v: %x %d", x.s, b, e)
		}
		if back, e := hello.GetServer(x.want); !sameServer(back, x.s) || e != api.OK {
			t.Errorf("%x: %v %d", x.want, back, e)
		}
	}
}

// serverBends has ways by which a server that answers (or a retry) is at the edge of what may be, or beyond it.
var serverBends = []struct {
	what string
	isIn bool
	from func() hello.Server
	bend func(s *hello.Server)
}{
	{"an answer", true, answer, func(s *hello.Server) {}},
	{"a retry", true, again, func(s *hello.Server) {}},
	{"a retry with a cookie", true, both, func(s *hello.Server) {}},
	{"33 of Session", false, answer, func(s *hello.Server) { s.Session = make([]byte, 33) }},
	{"33 of a retry's Session", false, again, func(s *hello.Server) { s.Session = make([]byte, 33) }},
	{"numbers of 0", true, answer, func(s *hello.Server) { s.Suite, s.Version, s.Psk = 0, 0, 0 }},
	{"numbers of 65535", true, answer, func(s *hello.Server) { s.Suite, s.Version, s.Share.Group, s.Psk = 65535, 65535, 65535, 65535 }},
	{"Version 0303", true, answer, func(s *hello.Server) { s.Version = 0x0303 }},
	{"Suite below 0", false, answer, func(s *hello.Server) { s.Suite = -1 }},
	{"Suite 65536", false, answer, func(s *hello.Server) { s.Suite = 65536 }},
	{"Version below 0", false, answer, func(s *hello.Server) { s.Version = -1 }},
	{"Version 65536", false, answer, func(s *hello.Server) { s.Version = 65536 }},
	{"Group below 0", false, answer, func(s *hello.Server) { s.Share.Group = -1 }},
	{"Group 65536", false, answer, func(s *hello.Server) { s.Share.Group = 65536 }},
	{"a retry's Group below 0", false, again, func(s *hello.Server) { s.Share.Group = -1 }},
	{"a retry's Group 65536", false, again, func(s *hello.Server) { s.Share.Group = 65536 }},
	{"Psk -1", true, answer, func(s *hello.Server) { s.Psk = -1 }},
	{"Psk -2", false, answer, func(s *hello.Server) { s.Psk = -2 }},
	{"Psk 65536", false, answer, func(s *hello.Server) { s.Psk = 65536 }},
	{"a Key of no byte", false, answer, func(s *hello.Server) { s.Share.Key = nil }},
	{"a Key of a byte", true, answer, func(s *hello.Server) { s.Share.Key = []byte{1} }},
	{"a Key of 64 bytes", true, answer, func(s *hello.Server) { s.Share.Key = probe.Bytes(64, 1) }},
	{"a Key of 65 bytes", false, answer, func(s *hello.Server) { s.Share.Key = make([]byte, 65) }},
	{"a Key without a Group", false, answer, func(s *hello.Server) { s.Share.Group = 0 }},
	{"no Share", true, answer, func(s *hello.Server) { s.Share = hello.Share{} }},
	{"an answer's Cookie", false, answer, func(s *hello.Server) { s.Cookie = []byte{1} }},
	{"RetryRandom", false, answer, func(s *hello.Server) { s.Random = [32]byte(hex(retry)) }},
	{"a retry's Key", false, again, func(s *hello.Server) { s.Share.Key = []byte{1} }},
	{"a retry's Key without a Group", false, both, func(s *hello.Server) { s.Share = hello.Share{Key: []byte{1}} }},
	{"a retry's Psk 0", false, again, func(s *hello.Server) { s.Psk = 0 }},
	{"a retry's Psk -2", false, again, func(s *hello.Server) { s.Psk = -2 }},
	{"a retry for nothing", false, again, func(s *hello.Server) { s.Share.Group = 0 }},
	{"a retry with a Cookie alone", true, both, func(s *hello.Server) { s.Share.Group = 0 }},
	{"a Cookie of a byte", true, both, func(s *hello.Server) { s.Cookie = []byte{0} }},
	{"a Cookie of 65 bytes", false, both, func(s *hello.Server) { s.Cookie = make([]byte, 65) }},
}

// TestServerEdges: P8.1 and P8.2.
func TestServerEdges(t *testing.T) {
	for _, x := range serverBends {
		s := x.from()
		x.bend(&s)
		b, e := hello.PutServer(s)
		if !x.isIn {
			if len(b) != 0 || e != api.ErrArg {
				t.Errorf("%s: %x %d", x.what, b, e)
			}
			continue
		}
		if back, f := hello.GetServer(b); e != api.OK || f != api.OK || !sameServer(back, s) {
			t.Errorf("%s: %d, %v, %d", x.what, e, back, f)
		}
	}
}

// TestRandomOfARetry: P8.1; it isn't looked at, and noughts when it is read.
func TestRandomOfARetry(t *testing.T) {
	want, _ := hello.PutServer(again())
	for _, random := range [][32]byte{probe.Array(5), [32]byte(hex(retry))} {
		s := again()
		s.Random = random
		b, e := hello.PutServer(s)
		if !bytes.Equal(b, want) || e != api.OK {
			t.Errorf("%x %d", b, e)
		}
		if back, e := hello.GetServer(b); back.Random != [32]byte{} || !back.Retry || e != api.OK {
			t.Errorf("%v %d", back, e)
		}
	}
	for i := range 32 {
		bent := bytes.Clone(want)
		bent[2+i] ^= 1
		if s, e := hello.GetServer(bent); e != api.ErrForm || !sameServer(s, hello.Server{}) {
			t.Errorf("byte %d of Random bent: a share without a key is read: %v %d", i, s, e)
		}
	}
}

// TestServerCutShort: P8.1.
func TestServerCutShort(t *testing.T) {
	for _, s := range []hello.Server{answer(), again(), both(), {Psk: -1}} {
		b, _ := hello.PutServer(s)
		for n := range b {
			if back, e := hello.GetServer(b[:n]); !sameServer(back, hello.Server{}) || e != api.ErrShort {
				t.Errorf("%d of %d bytes: %v %d", n, len(b), back, e)
			}
		}
		if back, e := hello.GetServer(append(b, 0)); !sameServer(back, hello.Server{}) || e != api.ErrForm {
			t.Errorf("a byte more: %v %d", back, e)
		}
	}
}

// TestServerWrong: P8.1.
func TestServerWrong(t *testing.T) {
	head := "0303" + string(bytes.Repeat([]byte("ab"), 32))
	version, share := extension(43, hex("0304")), extension(51, hex("001d00016b"))
	for _, x := range []struct {
		what string
		b    []byte
		want api.Errno
	}{
		{"the first number", joined(hex("0302"), rawServer(version)[2:]), api.ErrForm},
		{"the first number, and bytes that lack", hex("0302"), api.ErrForm},
		{"33 of Session", joined(hex(head+"21"), make([]byte, 33), hex("1303"+"00"+"0000")), api.ErrForm},
		{"33 of Session, and bytes that lack", joined(hex(head+"21"), make([]byte, 33)), api.ErrForm},
		{"a method", hex(head + "00" + "1303" + "01" + "0000"), api.ErrForm},
		{"a method, and bytes that lack", hex(head + "00" + "1303" + "01"), api.ErrForm},
		{"no extensions' count", hex(head + "00" + "1303" + "00"), api.ErrShort},
		{"extensions that lack", hex(head + "00" + "1303" + "00" + "0007" + "002b00020304"), api.ErrShort},
		{"a byte that is no extension", rawServer(version, hex("00")), api.ErrForm},
		{"a body that lacks", rawServer(version, hex("ffff000100")[:4]), api.ErrForm},
		{"43 twice", rawServer(version, version), api.ErrForm},
		{"51 twice", rawServer(share, version, share), api.ErrForm},
		{"another kind twice", rawServer(extension(99), version, extension(99)), api.ErrForm},
		{"43 of nothing", rawServer(extension(43)), api.ErrForm},
		{"43 of a byte", rawServer(extension(43, hex("03"))), api.ErrForm},
		{"43 of three bytes", rawServer(extension(43, hex("030400"))), api.ErrForm},
		{"51 of nothing", rawServer(extension(51)), api.ErrForm},
		{"51 without a key", rawServer(extension(51, hex("001d"))), api.ErrForm},
		{"51 of no key", rawServer(extension(51, hex("001d0000"))), api.ErrForm},
		{"51 of a key that lacks", rawServer(extension(51, hex("001d00026b"))), api.ErrForm},
		{"51 of 65 bytes", rawServer(extension(51, hex("001d0041"), make([]byte, 65))), api.ErrForm},
		{"51 with a byte behind", rawServer(extension(51, hex("001d00016b00"))), api.ErrForm},
		{"51 of group 0", rawServer(extension(51, hex("000000016b"))), api.ErrForm},
		{"44 of no retry", rawServer(version, extension(44, hex("000163"))), api.ErrForm},
		{"41 of nothing", rawServer(extension(41)), api.ErrForm},
		{"41 of a byte", rawServer(extension(41, hex("00"))), api.ErrForm},
		{"41 of three bytes", rawServer(extension(41, hex("000000"))), api.ErrForm},
		{"a retry for nothing", rawRetry(version), api.ErrForm},
		{"a retry for group 0", rawRetry(version, extension(51, hex("0000"))), api.ErrForm},
		{"a retry with a key", rawRetry(version, share), api.ErrForm},
		{"a retry with 41", rawRetry(version, extension(51, hex("001d")), extension(41, hex("0000"))), api.ErrForm},
		{"44 of nothing", rawRetry(extension(44)), api.ErrForm},
		{"44 of no byte", rawRetry(extension(44, hex("0000"))), api.ErrForm},
		{"44 of no byte, and 51", rawRetry(extension(51, hex("001d")), extension(44, hex("0000"))), api.ErrForm},
		{"44 of 65 bytes", rawRetry(extension(44, hex("0041"), make([]byte, 65))), api.ErrForm},
		{"44 with a byte behind", rawRetry(extension(44, hex("00016300"))), api.ErrForm},
	} {
		if s, e := hello.GetServer(x.b); !sameServer(s, hello.Server{}) || e != x.want {
			t.Errorf("%s: %v %d, not %d", x.what, s, e, x.want)
		}
	}
}

// TestServerOfAnyOrder: P8.1; what isn't there, any order, and other kinds (those of a client alone, too).
func TestServerOfAnyOrder(t *testing.T) {
	want := hello.Server{Random: probe.Array(1), Suite: 0x1303, Version: 0x0303, Psk: -1}
	if s, e := hello.GetServer(rawServer()); !sameServer(s, want) || e != api.OK {
		t.Errorf("no extension: %v %d", s, e)
	}
	parts := [][]byte{extension(41, hex("0003")), extension(10, hex("ff")), extension(51, hex("001d00016b")), extension(45), extension(43, hex("0304")), extension(13), extension(65535, probe.Bytes(99, 1))}
	want = hello.Server{Random: probe.Array(1), Suite: 0x1303, Version: 0x0304, Share: hello.Share{Group: 0x1d, Key: []byte("k")}, Psk: 3}
	for turn := range parts {
		b := rawServer(append(append([][]byte{}, parts[turn:]...), parts[:turn]...)...)
		if s, e := hello.GetServer(b); !sameServer(s, want) || e != api.OK {
			t.Errorf("turned by %d: %v %d", turn, s, e)
		}
	}
	want = hello.Server{Suite: 0x1303, Version: 0x0303, Share: hello.Share{Group: 0x1d}, Retry: true, Cookie: []byte("c"), Psk: -1}
	if s, e := hello.GetServer(rawRetry(extension(44, hex("000163")), extension(7), extension(51, hex("001d")))); !sameServer(s, want) || e != api.OK {
		t.Errorf("a retry: %v %d", s, e)
	}
}

// TestBentServers: P8.1 and P8.2; what is read of any bytes can be put, and is then read as the same.
func TestBentServers(t *testing.T) {
	read := 0
	for _, s := range []hello.Server{answer(), again(), both()} {
		b, _ := hello.PutServer(s)
		for i := range b {
			for x := 1; x < 256; x++ {
				bent := bytes.Clone(b)
				bent[i] ^= byte(x)
				s, e := hello.GetServer(bent)
				if e != api.OK {
					if e != api.ErrForm && e != api.ErrShort || !sameServer(s, hello.Server{}) {
						t.Errorf("byte %d, %d: %v %d", i, x, s, e)
					}
					continue
				}
				read++
				again, e := hello.PutServer(s)
				back, f := hello.GetServer(again)
				if e != api.OK || f != api.OK || !sameServer(back, s) {
					t.Errorf("byte %d, %d: %d, %v, %d", i, x, e, back, f)
				}
			}
		}
	}
	if read == 0 {
		t.Error("none is read")
	}
}
