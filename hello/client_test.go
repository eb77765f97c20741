package hello_test

import (
	"bytes"
	"testing"

	"relay/api"
	"relay/hello"
	"relay/probe"
)

// TestClientBytes: P8.1, of each part's place and kind.
func TestClientBytes(t *testing.T) {
	b, e := hello.PutClient(least())
	if !bytes.Equal(b, joined(hex("0303"), probe.Bytes(32, 1), hex("00"+"00021303"+"0100"+"0000"))) || e != api.OK {
		t.Errorf("least: %x %d", b, e)
	}
	c := hello.Client{
		Random: probe.Array(1), Session: []byte("s"), Suites: []int{0x1303, 0x1301}, Versions: []int{0x304, 0x303},
		Groups: []int{0x1d, 0x17}, Schemes: []int{0xfe01}, Shares: []hello.Share{{Group: 0x1d, Key: []byte("k")}, {Group: 0x17, Key: []byte("mm")}},
		Cookie: []byte("c"), Modes: []byte{1, 0}, Ids: []hello.Id{{Ticket: []byte("t"), Age: 0x1020304}, {Ticket: []byte("uu"), Age: 5}},
		Binders: binders(2, 32),
	}
	want := joined(hex("0303"), probe.Bytes(32, 1), hex("0173"+"000413031301"+"0100"), vector(2,
		hex("002b"+"0005"+"0403040303"),
		hex("000a"+"0006"+"0004001d0017"),
		hex("000d"+"0004"+"0002fe01"),
		hex("0033"+"000d"+"000b"+"001d00016b"+"001700026d6d"),
		hex("002c"+"0003"+"000163"),
		hex("002d"+"0003"+"020100"),
		hex("0029"+"0055"+"000f"+"00017401020304"+"0002757500000005"+"0042"), hex("20"), binders(2, 32)[0], hex("20"), binders(2, 32)[1],
	))
	if b, e := hello.PutClient(c); !bytes.Equal(b, want) || e != api.OK {
		t.Errorf("%x %d\n%x", b, e, want)
	}
	if back, e := hello.GetClient(want); !sameClient(back, c) || e != api.OK {
		t.Errorf("%v %d", back, e)
	}
}

// clientBends has ways by which a client is at the edge of what may be (isIn), or just beyond it.
var clientBends = []struct {
	what string
	isIn bool
	bend func(c *hello.Client)
}{
	{"nothing", true, func(c *hello.Client) {}},
	{"no Session", true, func(c *hello.Client) { c.Session = nil }},
	{"33 of Session", false, func(c *hello.Client) { c.Session = make([]byte, 33) }},
	{"no Suites", false, func(c *hello.Client) { c.Suites = nil }},
	{"9 Suites", false, func(c *hello.Client) { c.Suites = numbers(9, 1) }},
	{"a Suite of 0", true, func(c *hello.Client) { c.Suites = []int{0} }},
	{"a Suite of 65535", true, func(c *hello.Client) { c.Suites[7] = 65535 }},
	{"a Suite of 65536", false, func(c *hello.Client) { c.Suites[7] = 65536 }},
	{"a Suite below 0", false, func(c *hello.Client) { c.Suites[0] = -1 }},
	{"no Versions", true, func(c *hello.Client) { c.Versions = nil }},
	{"5 Versions", false, func(c *hello.Client) { c.Versions = numbers(5, 1) }},
	{"a Version of 65536", false, func(c *hello.Client) { c.Versions[3] = 65536 }},
	{"a Version below 0", false, func(c *hello.Client) { c.Versions[0] = -1 }},
	{"no Groups", true, func(c *hello.Client) { c.Groups = nil }},
	{"5 Groups", false, func(c *hello.Client) { c.Groups = numbers(5, 1) }},
	{"a Group of 65536", false, func(c *hello.Client) { c.Groups[3] = 65536 }},
	{"a Group below 0", false, func(c *hello.Client) { c.Groups[0] = -1 }},
	{"no Schemes", true, func(c *hello.Client) { c.Schemes = nil }},
	{"5 Schemes", false, func(c *hello.Client) { c.Schemes = numbers(5, 1) }},
	{"a Scheme of 65536", false, func(c *hello.Client) { c.Schemes[3] = 65536 }},
	{"a Scheme below 0", false, func(c *hello.Client) { c.Schemes[0] = -1 << 63 }},
	{"no Shares", true, func(c *hello.Client) { c.Shares = nil }},
	{"5 Shares", false, func(c *hello.Client) { c.Shares = shares(5, 1) }},
	{"a Share's Group of 65535", true, func(c *hello.Client) { c.Shares[3].Group = 65535 }},
	{"a Share's Group of 65536", false, func(c *hello.Client) { c.Shares[3].Group = 65536 }},
	{"a Share's Group below 0", false, func(c *hello.Client) { c.Shares[0].Group = -1 }},
	{"a Key of no byte", false, func(c *hello.Client) { c.Shares[2].Key = nil }},
	{"a Key of a byte", true, func(c *hello.Client) { c.Shares[2].Key = []byte{0} }},
	{"a Key of 65 bytes", false, func(c *hello.Client) { c.Shares[2].Key = make([]byte, 65) }},
	{"no Cookie", true, func(c *hello.Client) { c.Cookie = nil }},
	{"a Cookie of a byte", true, func(c *hello.Client) { c.Cookie = []byte{0} }},
	{"a Cookie of 65 bytes", false, func(c *hello.Client) { c.Cookie = make([]byte, 65) }},
	{"no Modes", true, func(c *hello.Client) { c.Modes = nil }},
	{"5 Modes", false, func(c *hello.Client) { c.Modes = make([]byte, 5) }},
	{"no Ids", true, func(c *hello.Client) { c.Ids, c.Binders = nil, nil }},
	{"one Id", true, func(c *hello.Client) { c.Ids, c.Binders = ids(1, 1), binders(1, 32) }},
	{"4 Ids of 255 bytes", true, func(c *hello.Client) { c.Ids = ids(4, 255) }},
	{"5 Ids", false, func(c *hello.Client) { c.Ids, c.Binders = ids(5, 1), binders(5, 32) }},
	{"a Ticket of no byte", false, func(c *hello.Client) { c.Ids[3].Ticket = nil }},
	{"a Ticket of 256 bytes", false, func(c *hello.Client) { c.Ids[0].Ticket = make([]byte, 256) }},
	{"an Age of 0", true, func(c *hello.Client) { c.Ids[1].Age = 0 }},
	{"an Age of 2^32 - 1", true, func(c *hello.Client) { c.Ids[1].Age = 1<<32 - 1 }},
	{"an Age of 2^32", false, func(c *hello.Client) { c.Ids[1].Age = 1 << 32 }},
	{"an Age below 0", false, func(c *hello.Client) { c.Ids[1].Age = -1 }},
	{"Binders too few", false, func(c *hello.Client) { c.Binders = c.Binders[:3] }},
	{"Binders too many", false, func(c *hello.Client) { c.Ids = c.Ids[:3] }},
	{"Binders without Ids", false, func(c *hello.Client) { c.Ids = nil }},
	{"Ids without Binders", false, func(c *hello.Client) { c.Binders = nil }},
	{"a Binder of no byte", false, func(c *hello.Client) { c.Binders[3] = nil }},
	{"a Binder of 31 bytes", false, func(c *hello.Client) { c.Binders[3] = make([]byte, 31) }},
	{"a Binder of 33 bytes", false, func(c *hello.Client) { c.Binders[0] = make([]byte, 33) }},
}

// TestClientEdges: P8.1 and P8.2.
func TestClientEdges(t *testing.T) {
	for _, x := range clientBends {
		c := full()
		x.bend(&c)
		b, e := hello.PutClient(c)
		if !x.isIn {
			if len(b) != 0 || e != api.ErrArg {
				t.Errorf("%s: %x %d", x.what, b, e)
			}
			continue
		}
		if back, f := hello.GetClient(b); e != api.OK || f != api.OK || !sameClient(back, c) {
			t.Errorf("%s: %d, %v, %d", x.what, e, back, f)
		}
	}
}

// TestClientCutShort: P8.1; all bytes but some of the last ones, and one too many.
func TestClientCutShort(t *testing.T) {
	for _, c := range []hello.Client{least(), full()} {
		b, _ := hello.PutClient(c)
		for n := range b {
			if back, e := hello.GetClient(b[:n]); !sameClient(back, hello.Client{}) || e != api.ErrShort {
				t.Errorf("%d of %d bytes: %v %d", n, len(b), back, e)
			}
			if k, e := hello.Cut(b[:n]); k != 0 || e != api.ErrShort {
				t.Errorf("%d of %d bytes: Cut %d %d", n, len(b), k, e)
			}
		}
		for behind := 1; behind < 4; behind++ {
			if back, e := hello.GetClient(joined(b, make([]byte, behind))); !sameClient(back, hello.Client{}) || e != api.ErrForm {
				t.Errorf("%d bytes more: %v %d", behind, back, e)
			}
		}
	}
}

// TestClientHeadWrong: P8.1; what is wrong first, where it is read, counts.
func TestClientHeadWrong(t *testing.T) {
	random := string(bytes.Repeat([]byte("ab"), 32))
	good := "0303" + random + "00" + "00021303" + "0100"
	for _, x := range []struct {
		what, b string
		want    api.Errno
	}{
		{"all right", good + "0000", api.OK},
		{"the first number", "0304" + random + "00" + "00021303" + "0100" + "0000", api.ErrForm},
		{"the first number, and bytes that lack", "0304", api.ErrForm},
		{"half of the first number", "04", api.ErrShort},
		{"33 of Session", "0303" + random + "21" + random + "ab" + "00021303" + "0100" + "0000", api.ErrForm},
		{"33 of Session, and bytes that lack behind", "0303" + random + "21" + random + "ab", api.ErrForm},
		{"33 of Session that lack", "0303" + random + "21" + random, api.ErrShort},
		{"no Suites", "0303" + random + "00" + "0000" + "0100" + "0000", api.ErrForm},
		{"half a Suite", "0303" + random + "00" + "000113" + "0100" + "0000", api.ErrForm},
		{"a Suite and a half", "0303" + random + "00" + "0003130313" + "0100" + "0000", api.ErrForm},
		{"a Suite and a half, and bytes that lack", "0303" + random + "00" + "0003130313", api.ErrForm},
		{"a Suite and a half that lack", "0303" + random + "00" + "00031303", api.ErrShort},
		{"8 Suites", "0303" + random + "00" + "0010" + random[:32] + "0100" + "0000", api.OK},
		{"9 Suites", "0303" + random + "00" + "0012" + random[:36] + "0100" + "0000", api.ErrForm},
		{"9 Suites, and bytes that lack", "0303" + random + "00" + "0012" + random[:36], api.ErrForm},
		{"no method", "0303" + random + "00" + "00021303" + "00" + "0000", api.ErrForm},
		{"no method, and bytes that lack", "0303" + random + "00" + "00021303" + "00", api.ErrForm},
		{"method 1", "0303" + random + "00" + "00021303" + "0101" + "0000", api.ErrForm},
		{"method 1, and bytes that lack", "0303" + random + "00" + "00021303" + "0101", api.ErrForm},
		{"two methods", "0303" + random + "00" + "00021303" + "020000" + "0000", api.ErrForm},
		{"no extensions' count", good, api.ErrShort},
		{"a byte behind", good + "0000" + "00", api.ErrForm},
		{"extensions that lack, a wrong one among them", good + "0008" + "002b0000", api.ErrShort},
	} {
		if c, e := hello.GetClient(hex(x.b)); e != x.want || e != api.OK && !sameClient(c, hello.Client{}) {
			t.Errorf("%s: %v %d, not %d", x.what, c, e, x.want)
		}
	}
}

// refuseClients: each of them is ErrForm, to GetClient and to Cut.
func refuseClients(t *testing.T, all map[string][]byte) {
	t.Helper()
	for what, b := range all {
		if c, e := hello.GetClient(b); !sameClient(c, hello.Client{}) || e != api.ErrForm {
			t.Errorf("%s: %v %d", what, c, e)
		}
		if n, e := hello.Cut(b); n != 0 || e != api.ErrForm {
			t.Errorf("%s: Cut %d %d", what, n, e)
		}
	}
}

// TestClientExtensionsWrong: P8.1; all bytes are there, so each is ErrForm.
func TestClientExtensionsWrong(t *testing.T) {
	id, binder := hex("00017400000007"), joined(hex("20"), probe.Bytes(32, 1))
	offer := extension(41, vector(2, id), vector(2, binder))
	refuseClients(t, map[string][]byte{
		"a byte that is no extension": rawClient(hex("00")),
		"a kind without a count":      rawClient(hex("ffff")),
		"a kind and half a count":     rawClient(hex("ffff00")),
		"a body that lacks":           rawClient(hex("ffff0002aa")),
		"a body that lacks, of 43":    rawClient(hex("002b000403030403")[:7]),
		"43 twice":                    rawClient(extension(43, hex("020304")), extension(43, hex("020304"))),
		"43 twice, apart":             rawClient(extension(43, hex("020304")), extension(45, hex("0101")), extension(43, hex("020304"))),
		"another kind twice":          rawClient(extension(99), extension(99)),
		"41 twice":                    rawClient(offer, offer),
		"41 not the last":             rawClient(offer, extension(45, hex("0101"))),
		"41 ahead of another kind":    rawClient(offer, extension(99)),
		"43 of nothing":               rawClient(extension(43)),
		"43 of an empty list":         rawClient(extension(43, hex("00"))),
		"43 of half a number":         rawClient(extension(43, hex("0103"))),
		"43 of three bytes":           rawClient(extension(43, hex("03030403"))),
		"43 of 5 numbers":             rawClient(extension(43, vector(1, probe.Bytes(10, 1)))),
		"43 with a byte behind":       rawClient(extension(43, hex("02030400"))),
		"43 whose list lacks":         rawClient(extension(43, hex("040304"))),
		"10 of nothing":               rawClient(extension(10)),
		"10 of an empty list":         rawClient(extension(10, hex("0000"))),
		"10 of three bytes":           rawClient(extension(10, hex("0003001d00"))),
		"10 of 5 numbers":             rawClient(extension(10, vector(2, probe.Bytes(10, 1)))),
		"10 with a byte behind":       rawClient(extension(10, hex("0002001d00"))),
		"13 of an empty list":         rawClient(extension(13, hex("0000"))),
		"13 of a byte":                rawClient(extension(13, hex("0001fe"))),
		"13 of 5 numbers":             rawClient(extension(13, vector(2, probe.Bytes(10, 1)))),
		"13 with a byte behind":       rawClient(extension(13, hex("0002fe0100"))),
	})
}

// TestClientTextsWrong: P8.1; likewise.
func TestClientTextsWrong(t *testing.T) {
	share := hex("001d00016b")
	refuseClients(t, map[string][]byte{
		"51 of nothing":              rawClient(extension(51)),
		"51 of an empty list":        rawClient(extension(51, hex("0000"))),
		"51 of half a group":         rawClient(extension(51, hex("000100"))),
		"51 of a group alone":        rawClient(extension(51, hex("0002001d"))),
		"51 of no key":               rawClient(extension(51, hex("0004001d0000"))),
		"51 of a key that lacks":     rawClient(extension(51, hex("0005001d00026b"))),
		"51 of a key of 65 bytes":    rawClient(extension(51, vector(2, hex("001d"), vector(2, probe.Bytes(65, 1))))),
		"51 of 5 shares":             rawClient(extension(51, vector(2, share, share, share, share, share))),
		"51 with a byte behind":      rawClient(extension(51, vector(2, share), hex("00"))),
		"51 with a byte in its list": rawClient(extension(51, vector(2, share, hex("00")))),
		"44 of nothing":              rawClient(extension(44)),
		"44 of no byte":              rawClient(extension(44, hex("0000"))),
		"44 of 65 bytes":             rawClient(extension(44, vector(2, probe.Bytes(65, 1)))),
		"44 with a byte behind":      rawClient(extension(44, hex("000163"), hex("00"))),
		"45 of nothing":              rawClient(extension(45)),
		"45 of no mode":              rawClient(extension(45, hex("00"))),
		"45 of 5 modes":              rawClient(extension(45, hex("050102030405"))),
		"45 with a byte behind":      rawClient(extension(45, hex("010100"))),
	})
}

// TestClientOffersWrong: P8.1; likewise.
func TestClientOffersWrong(t *testing.T) {
	id, binder := hex("00017400000007"), joined(hex("20"), probe.Bytes(32, 1))
	refuseClients(t, map[string][]byte{
		"41 of nothing":             rawClient(extension(41)),
		"41 of no id and no binder": rawClient(extension(41, hex("00000000"))),
		"41 of no id":               rawClient(extension(41, hex("0000"), vector(2, binder))),
		"41 of no binder":           rawClient(extension(41, vector(2, id), hex("0000"))),
		"41 without binders":        rawClient(extension(41, vector(2, id))),
		"41 of a binder more":       rawClient(extension(41, vector(2, id), vector(2, binder, binder))),
		"41 of an id more":          rawClient(extension(41, vector(2, id, id), vector(2, binder))),
		"41 of 5 ids":               rawClient(extension(41, vector(2, id, id, id, id, id), vector(2, binder, binder, binder, binder, binder))),
		"41 of a ticket of no byte": rawClient(extension(41, vector(2, hex("000000000007")), vector(2, binder))),
		"41 of 256 bytes":           rawClient(extension(41, vector(2, vector(2, probe.Bytes(256, 1)), hex("00000007")), vector(2, binder))),
		"41 of half an age":         rawClient(extension(41, vector(2, id[:5]), vector(2, binder))),
		"41 of 31 bytes":            rawClient(extension(41, vector(2, id), vector(2, vector(1, probe.Bytes(31, 1))))),
		"41 of 33 bytes":            rawClient(extension(41, vector(2, id), vector(2, vector(1, probe.Bytes(33, 1))))),
		"41 with a byte behind":     rawClient(extension(41, vector(2, id), vector(2, binder), hex("00"))),
		"41 with a byte in binders": rawClient(extension(41, vector(2, id), vector(2, binder, hex("00")))),
	})
}

// TestClientOfAnyOrder: P8.1; any order, and other kinds are left out.
func TestClientOfAnyOrder(t *testing.T) {
	id, binder := hex("00017400000007"), joined(hex("20"), probe.Bytes(32, 1))
	parts := [][]byte{
		extension(45, hex("0101")), extension(0), extension(51, hex("0005001d00016b")), extension(43, hex("020304")),
		extension(44, hex("000163")), extension(65535, probe.Bytes(300, 1)), extension(13, hex("0002fe01")), extension(10, hex("0002001d")),
	}
	want := hello.Client{
		Random: probe.Array(1), Suites: []int{0x1303}, Versions: []int{0x304}, Groups: []int{0x1d}, Schemes: []int{0xfe01},
		Shares: []hello.Share{{Group: 0x1d, Key: []byte("k")}}, Cookie: []byte("c"), Modes: []byte{1},
		Ids: []hello.Id{{Ticket: []byte("t"), Age: 7}}, Binders: [][]byte{probe.Bytes(32, 1)},
	}
	for turn := range parts {
		all := append(append([][]byte{}, parts[turn:]...), parts[:turn]...)
		b := rawClient(append(all, extension(41, vector(2, id), vector(2, binder)))...)
		if c, e := hello.GetClient(b); !sameClient(c, want) || e != api.OK {
			t.Errorf("turned by %d: %v %d", turn, c, e)
		}
		if n, e := hello.Cut(b); n != len(b)-35 || e != api.OK {
			t.Errorf("turned by %d: Cut %d %d", turn, n, e)
		}
	}
	var many [][]byte
	for kind := 1000; kind < 1000+65535/4; kind++ {
		many = append(many, extension(kind))
	}
	if c, e := hello.GetClient(rawClient(many...)); !sameClient(c, least()) || e != api.OK {
		t.Errorf("%d other kinds: %v %d", len(many), c, e)
	}
}

// TestCut: P8.1.
func TestCut(t *testing.T) {
	for n := 1; n <= 4; n++ {
		for _, size := range []int{1, 16, 255} {
			c := full()
			c.Ids, c.Binders = ids(n, size), binders(n, 32)
			b, _ := hello.PutClient(c)
			k, e := hello.Cut(b)
			if e != api.OK || k != len(b)-2-33*n || !bytes.Equal(b[k:k+3], []byte{0, byte(33 * n), 32}) {
				t.Errorf("%d Ids of %d bytes: %d of %d, %d", n, size, k, len(b), e)
			}
		}
	}
	b, _ := hello.PutClient(least())
	if n, e := hello.Cut(b); n != 0 || e != api.ErrNone {
		t.Errorf("no Ids: %d %d", n, e)
	}
	if n, e := hello.Cut(append(b, 0)); n != 0 || e != api.ErrForm {
		t.Errorf("no Ids, and a byte: %d %d", n, e)
	}
	if n, e := hello.Cut(nil); n != 0 || e != api.ErrShort {
		t.Errorf("no bytes: %d %d", n, e)
	}
}

// TestBentClients: P8.1 and P8.2; what is read of any bytes can be put, and is then read as the same.
func TestBentClients(t *testing.T) {
	b, _ := hello.PutClient(full())
	read := 0
	for i := range b {
		for _, x := range []byte{1, 2, 3, 4, 8, 32, 51, 128, 255} {
			bent := bytes.Clone(b)
			bent[i] ^= x
			c, e := hello.GetClient(bent)
			if e != api.OK {
				if e != api.ErrForm && e != api.ErrShort || !sameClient(c, hello.Client{}) {
					t.Errorf("byte %d, %d: %v %d", i, x, c, e)
				}
				continue
			}
			read++
			again, e := hello.PutClient(c)
			back, f := hello.GetClient(again)
			if e != api.OK || f != api.OK || !sameClient(back, c) {
				t.Errorf("byte %d, %d: %d, %v, %d", i, x, e, back, f)
			}
		}
	}
	if read == 0 {
		t.Error("none is read")
	}
}
