package message_test

import (
	"bytes"
	"slices"
	"testing"

	"relay/api"
	"relay/message"
	"relay/probe"
)

// joined is all, side by side.
func joined(all ...[]byte) []byte { return slices.Concat(all...) }

// TestKinds: P9.1; the numbers that RFC 8446 has for them.
func TestKinds(t *testing.T) {
	kinds := []int{message.ClientHello, message.ServerHello, message.Ticket, message.Encrypted, message.Certificate, message.Verify, message.Finished, message.Update, message.Hash}
	if !slices.Equal(kinds, []int{1, 2, 4, 8, 11, 15, 20, 24, 254}) {
		t.Errorf("%v", kinds)
	}
}

// TestPut: P9.1.
func TestPut(t *testing.T) {
	for _, c := range []struct {
		kind int
		body []byte
		want []byte
	}{
		{message.Update, []byte{1}, probe.Hex("1800000101")},
		{0, nil, probe.Hex("00000000")},
		{255, []byte("ab"), probe.Hex("ff0000026162")},
		{message.Hash, probe.Bytes(256, 1), joined(probe.Hex("fe000100"), probe.Bytes(256, 1))},
		{message.Finished, probe.Bytes(2048, 1), joined(probe.Hex("14000800"), probe.Bytes(2048, 1))},
	} {
		if b, e := message.Put(message.Msg{Kind: c.kind, Body: c.body}); !bytes.Equal(b, c.want) || e != api.OK {
			t.Errorf("kind %d: %x %d", c.kind, b, e)
		}
	}
	for _, m := range []message.Msg{{Kind: -1}, {Kind: 256}, {Kind: -1 << 63}, {Kind: 1<<63 - 1}, {Kind: 1, Body: make([]byte, 2049)}} {
		if b, e := message.Put(m); len(b) != 0 || e != api.ErrArg {
			t.Errorf("kind %d, %d bytes: %x %d", m.Kind, len(m.Body), b, e)
		}
	}
}

// TestTake: P9.1 and P9.2; messages side by side are taken one by one, each only when all of it is there.
func TestTake(t *testing.T) {
	var all []byte
	var each []message.Msg
	for i, size := range []int{0, 1, 255, 256, 2048, 3} {
		m := message.Msg{Kind: i * 51, Body: probe.Bytes(size, i)}
		b, _ := message.Put(m)
		each = append(each, m)
		all = append(all, b...)
	}
	left := all
	for i, want := range each {
		size := 4 + len(want.Body)
		for n := range size {
			if m, rest, ok, e := message.Take(left[:n]); m.Kind != 0 || m.Body != nil || !bytes.Equal(rest, left[:n]) || ok || e != api.OK {
				t.Errorf("message %d, %d of %d bytes: %v, %d left, %v, %d", i, n, size, m, len(rest), ok, e)
			}
		}
		m, rest, ok, e := message.Take(left)
		if m.Kind != want.Kind || !bytes.Equal(m.Body, want.Body) || !bytes.Equal(rest, left[size:]) || !ok || e != api.OK {
			t.Errorf("message %d: %v, %d left, %v, %d", i, m, len(rest), ok, e)
		}
		left = rest
	}
	if _, rest, ok, e := message.Take(left); len(rest) != 0 || ok || e != api.OK {
		t.Errorf("behind all: %x, %v, %d", rest, ok, e)
	}
}

// TestTakeOfGreatCounts: P9.1; 2049 is told as soon as the count is there, and not before.
func TestTakeOfGreatCounts(t *testing.T) {
	for _, head := range []string{"01000801", "00000900", "14010000", "ffffffff"} {
		for _, behind := range []int{0, 1, 3000} {
			b := joined(probe.Hex(head), make([]byte, behind))
			if m, rest, ok, e := message.Take(b); m.Kind != 0 || len(m.Body) != 0 || len(rest) != 0 || ok || e != api.ErrForm {
				t.Errorf("%s: %v, %x, %v, %d", head, m, rest, ok, e)
			}
		}
		if _, rest, ok, e := message.Take(probe.Hex(head)[:3]); len(rest) != 3 || ok || e != api.OK {
			t.Errorf("three bytes of %s: %x, %v, %d", head, rest, ok, e)
		}
	}
	if _, rest, ok, e := message.Take(probe.Hex("0100080000")); len(rest) != 5 || ok || e != api.OK {
		t.Errorf("2048: %x, %v, %d", rest, ok, e)
	}
}

// a fault is bytes, and the error that is told of them.
type fault struct {
	b    string
	want api.Errno
}

// TestChain: P9.1 and P9.2.
func TestChain(t *testing.T) {
	b, e := message.PutChain([][]byte{{1}, {2, 3}})
	if !bytes.Equal(b, probe.Hex("0000000d"+"000001010000"+"00000202030000")) || e != api.OK {
		t.Errorf("%x %d", b, e)
	}
	for _, sizes := range [][]int{{1}, {300}, {1, 2, 3}, {300, 300, 300, 300}, {1, 300, 256, 255}} {
		var chain [][]byte
		for i, n := range sizes {
			chain = append(chain, probe.Bytes(n, i))
		}
		b, e := message.PutChain(chain)
		back, f := message.GetChain(b)
		if e != api.OK || f != api.OK || !slices.EqualFunc(back, chain, bytes.Equal) {
			t.Errorf("%v: %d, %d certificates, %d", sizes, e, len(back), f)
		}
		for n := range b {
			if back, e := message.GetChain(b[:n]); back != nil || e != api.ErrShort {
				t.Errorf("%v, %d of %d bytes: %x %d", sizes, n, len(b), back, e)
			}
		}
		if back, e := message.GetChain(append(b, 0)); back != nil || e != api.ErrForm {
			t.Errorf("%v and a byte: %x %d", sizes, back, e)
		}
	}
	for _, sizes := range [][]int{{}, {0}, {301}, {1, 0}, {0, 1}, {1, 1, 1, 301}, {1, 1, 1, 1, 1}} {
		chain := [][]byte{}
		for _, n := range sizes {
			chain = append(chain, make([]byte, n))
		}
		if b, e := message.PutChain(chain); len(b) != 0 || e != api.ErrArg {
			t.Errorf("%v: %x %d", sizes, b, e)
		}
	}
}

// TestChainWrong: P9.1; what stands in the vector must be just certificates, and what is wrong first counts.
func TestChainWrong(t *testing.T) {
	one := "000001010000"
	for _, c := range []fault{
		{"", api.ErrShort},
		{"01", api.ErrForm},
		{"01000006" + one, api.ErrForm},
		{"00000006" + one + "00", api.ErrForm},
		{"00000007" + one, api.ErrShort},
		{"00000000", api.ErrForm},
		{"00000006" + "000000010000", api.ErrForm},
		{"00000005" + "0000000000", api.ErrForm},
		{"00000004" + "00000101", api.ErrForm},
		{"00000005" + "0000010100", api.ErrForm},
		{"00000007" + "00000101000105", api.ErrForm},
		{"00000006" + "000002010000", api.ErrForm},
		{"00000007" + one + "00", api.ErrForm},
		{"00000009" + one + "000001", api.ErrForm},
		{"0000001e" + one + one + one + one + one, api.ErrForm},
		{"0000001f" + one + one + one + one + one, api.ErrShort},
	} {
		if chain, e := message.GetChain(probe.Hex(c.b)); chain != nil || e != c.want {
			t.Errorf("%s: %x %d, not %d", c.b, chain, e, c.want)
		}
	}
	long := joined(probe.Hex("0000013200012d"), make([]byte, 301+2))
	if chain, e := message.GetChain(long); chain != nil || e != api.ErrForm {
		t.Errorf("301 bytes: %x %d", chain, e)
	}
	if chain, e := message.GetChain(probe.Hex("00000018" + one + one + one + one)); len(chain) != 4 || e != api.OK {
		t.Errorf("four: %x %d", chain, e)
	}
}

// TestVerify: P9.1 and P9.2.
func TestVerify(t *testing.T) {
	for _, scheme := range []int{0, 1, 0xfe01, 65535} {
		for _, n := range []int{1, 32, 100} {
			sig := probe.Bytes(n, scheme)
			b, e := message.PutVerify(scheme, sig)
			if !bytes.Equal(b, joined([]byte{byte(scheme >> 8), byte(scheme), 0, byte(n)}, sig)) || e != api.OK {
				t.Errorf("%d, %d bytes: %x %d", scheme, n, b, e)
			}
			if s, x, e := message.GetVerify(b); s != scheme || !bytes.Equal(x, sig) || e != api.OK {
				t.Errorf("%d, %d bytes: %d %x %d", scheme, n, s, x, e)
			}
		}
	}
	for _, c := range []struct{ scheme, n int }{{-1, 1}, {65536, 1}, {1 << 62, 1}, {1, 0}, {1, 101}} {
		if b, e := message.PutVerify(c.scheme, make([]byte, c.n)); len(b) != 0 || e != api.ErrArg {
			t.Errorf("%v: %x %d", c, b, e)
		}
	}
	for _, c := range []fault{
		{"", api.ErrShort}, {"fe", api.ErrShort}, {"fe01", api.ErrShort}, {"fe0100", api.ErrShort},
		{"fe010001", api.ErrShort}, {"fe010002aa", api.ErrShort}, {"fe01ffffaa", api.ErrShort},
		{"fe010000", api.ErrForm}, {"fe01000000", api.ErrForm}, {"fe010001aabb", api.ErrForm},
	} {
		if s, x, e := message.GetVerify(probe.Hex(c.b)); s != 0 || len(x) != 0 || e != c.want {
			t.Errorf("%s: %d %x %d, not %d", c.b, s, x, e, c.want)
		}
	}
	if s, x, e := message.GetVerify(joined(probe.Hex("fe010065"), make([]byte, 101))); s != 0 || len(x) != 0 || e != api.ErrForm {
		t.Errorf("101 bytes: %d %x %d", s, x, e)
	}
}

// TestNew: P9.1 and P9.2.
func TestNew(t *testing.T) {
	b, e := message.PutNew(message.New{Life: 600, Add: 0x1020304, Nonce: []byte("n"), Ticket: []byte("tk")})
	if !bytes.Equal(b, probe.Hex("0000025801020304016e0002746b0000")) || e != api.OK {
		t.Errorf("%x %d", b, e)
	}
	for _, n := range []message.New{
		{Ticket: []byte{1}},
		{Life: 1<<32 - 1, Add: 1<<32 - 1, Nonce: probe.Bytes(8, 1), Ticket: probe.Bytes(255, 2)},
		{Life: 1, Add: 2, Nonce: probe.Bytes(1, 1), Ticket: probe.Bytes(16, 2)},
	} {
		b, e := message.PutNew(n)
		back, f := message.GetNew(b)
		if e != api.OK || f != api.OK || back.Life != n.Life || back.Add != n.Add || !bytes.Equal(back.Nonce, n.Nonce) || !bytes.Equal(back.Ticket, n.Ticket) {
			t.Errorf("%v: %d, %v, %d", n, e, back, f)
		}
		for k := range b {
			if back, e := message.GetNew(b[:k]); back.Life != 0 || back.Add != 0 || back.Nonce != nil || back.Ticket != nil || e != api.ErrShort {
				t.Errorf("%d of %d bytes: %v %d", k, len(b), back, e)
			}
		}
		if _, e := message.GetNew(append(b, 0)); e != api.ErrForm {
			t.Errorf("%v and a byte: %d", n, e)
		}
	}
	for _, n := range []message.New{
		{}, {Life: -1, Ticket: []byte{1}}, {Life: 1 << 32, Ticket: []byte{1}}, {Add: -1, Ticket: []byte{1}}, {Add: 1 << 32, Ticket: []byte{1}},
		{Nonce: make([]byte, 9), Ticket: []byte{1}}, {Ticket: make([]byte, 256)},
	} {
		if b, e := message.PutNew(n); len(b) != 0 || e != api.ErrArg {
			t.Errorf("%v: %x %d", n, b, e)
		}
	}
}

// TestNewWrong: P9.1.
func TestNewWrong(t *testing.T) {
	head := "0000000100000002"
	for _, c := range []fault{
		{head + "09" + "010203040506070809" + "0001aa" + "0000", api.ErrForm},
		{head + "09" + "010203040506070809", api.ErrForm},
		{head + "09" + "0102030405060708", api.ErrShort},
		{head + "00" + "0000" + "0000", api.ErrForm},
		{head + "00" + "0000", api.ErrForm},
		{head + "00" + "0002aa", api.ErrShort},
		{head + "00" + "0001aa" + "0001bb", api.ErrForm},
		{head + "00" + "0001aa" + "0001", api.ErrShort},
		{head + "00" + "0001aa" + "0000" + "00", api.ErrForm},
	} {
		if n, e := message.GetNew(probe.Hex(c.b)); n.Life != 0 || n.Add != 0 || n.Nonce != nil || n.Ticket != nil || e != c.want {
			t.Errorf("%s: %v %d, not %d", c.b, n, e, c.want)
		}
	}
	long := joined(probe.Hex(head+"000100"), make([]byte, 256+2))
	if n, e := message.GetNew(long); n.Ticket != nil || e != api.ErrForm {
		t.Errorf("256 bytes: %v %d", n, e)
	}
}

// TestUpdate: P9.1 and P9.2.
func TestUpdate(t *testing.T) {
	if a, b := message.PutUpdate(true), message.PutUpdate(false); !bytes.Equal(a, []byte{1}) || !bytes.Equal(b, []byte{0}) {
		t.Errorf("%x %x", a, b)
	}
	for x := range 256 {
		want := api.OK
		if x > 1 {
			want = api.ErrForm
		}
		if ask, e := message.GetUpdate([]byte{byte(x)}); ask != (x == 1) || e != want {
			t.Errorf("%d: %v %d", x, ask, e)
		}
		if ask, e := message.GetUpdate([]byte{byte(x), 1}); ask || e != api.ErrForm {
			t.Errorf("%d and one more: %v %d", x, ask, e)
		}
	}
	if ask, e := message.GetUpdate(nil); ask || e != api.ErrShort {
		t.Errorf("no byte: %v %d", ask, e)
	}
}

// TestAnyBytes: P9.1; whatever is read is put as the same bytes.
func TestAnyBytes(t *testing.T) {
	check := func(what string, b, again []byte, e, f api.Errno) {
		t.Helper()
		if e == api.OK && (f != api.OK || !bytes.Equal(again, b)) {
			t.Errorf("%s of %x is put as %x, %d", what, b, again, f)
		}
		if e != api.OK && e != api.ErrForm && e != api.ErrShort {
			t.Errorf("%s of %x: %d", what, b, e)
		}
	}
	chain, _ := message.PutChain([][]byte{{1}, {2, 3}})
	verify, _ := message.PutVerify(0xfe01, []byte("sig"))
	ticket, _ := message.PutNew(message.New{Life: 1, Nonce: []byte("n"), Ticket: []byte("tk")})
	for _, base := range [][]byte{chain, verify, ticket, {0}, {1}, {}} {
		for i := range base {
			for x := range 256 {
				b := bytes.Clone(base)
				b[i] = byte(x)
				list, e := message.GetChain(b)
				again, f := message.PutChain(list)
				check("a chain", b, again, e, f)
				scheme, sig, e := message.GetVerify(b)
				again, f = message.PutVerify(scheme, sig)
				check("a scheme and a signature", b, again, e, f)
				n, e := message.GetNew(b)
				again, f = message.PutNew(n)
				check("a ticket", b, again, e, f)
				ask, e := message.GetUpdate(b)
				check("an update", b, message.PutUpdate(ask), e, api.OK)
			}
		}
	}
}

// TestPutMemory: P9.3.
func TestPutMemory(t *testing.T) {
	x, y := probe.Lend(probe.Bytes(8, 1)), probe.Lend(probe.Bytes(50, 2))
	chain := make([][]byte, 2, 4)
	chain[0], chain[1] = x.Bytes(), y.Bytes()
	puts := []func() []byte{
		func() []byte { b, _ := message.Put(message.Msg{Kind: 1, Body: y.Bytes()}); return b },
		func() []byte { b, _ := message.PutChain(chain); return b },
		func() []byte { b, _ := message.PutVerify(1, y.Bytes()); return b },
		func() []byte {
			b, _ := message.PutNew(message.New{Nonce: x.Bytes(), Ticket: y.Bytes()})
			return b
		},
		func() []byte { return message.PutUpdate(true) },
	}
	var first, want [][]byte
	for _, put := range puts {
		b := put()
		first, want = append(first, b), append(want, bytes.Clone(b))
		probe.Spoil(put())
	}
	if !x.Kept() || !y.Kept() || &chain[0][0] != &x.Bytes()[0] || &chain[1][0] != &y.Bytes()[0] || chain[:4][2] != nil {
		t.Error("what was handed in was changed")
	}
	x.Spoil()
	y.Spoil()
	for i, b := range first {
		if len(b) == 0 || !bytes.Equal(b, want[i]) {
			t.Errorf("call %d: an answer shares memory", i)
		}
	}
}

// TestGetMemory: P9.3; each list of an answer is spoiled in turn, and the others stay.
func TestGetMemory(t *testing.T) {
	chain, _ := message.PutChain([][]byte{[]byte("ab"), []byte("cd"), []byte("ef")})
	verify, _ := message.PutVerify(1, []byte("sig"))
	ticket, _ := message.PutNew(message.New{Nonce: []byte("nn"), Ticket: []byte("tk")})
	msg, _ := message.Put(message.Msg{Kind: 1, Body: []byte("body")})
	for what, c := range map[string]struct {
		b   []byte
		get func(b []byte) [][]byte
	}{
		"chain":  {chain, func(b []byte) [][]byte { list, _ := message.GetChain(b); return list }},
		"verify": {verify, func(b []byte) [][]byte { _, sig, _ := message.GetVerify(b); return [][]byte{sig} }},
		"ticket": {ticket, func(b []byte) [][]byte { n, _ := message.GetNew(b); return [][]byte{n.Nonce, n.Ticket} }},
		"msg": {append(msg, "behind"...), func(b []byte) [][]byte {
			m, rest, _, _ := message.Take(b)
			return [][]byte{m.Body, rest}
		}},
		"part": {msg[:5], func(b []byte) [][]byte { _, rest, _, _ := message.Take(b); return [][]byte{rest} }},
	} {
		b := probe.Lend(c.b)
		lists := c.get(b.Bytes())
		var want [][]byte
		for _, list := range lists {
			want = append(want, bytes.Clone(list))
		}
		for i := range lists {
			probe.Spoil(lists[i])
			for k := i + 1; k < len(lists); k++ {
				if len(want[k]) == 0 || !bytes.Equal(lists[k], want[k]) {
					t.Errorf("%s: lists %d and %d share memory", what, i, k)
				}
			}
		}
		if !b.Kept() {
			t.Errorf("%s: what was handed in was changed, or is shared", what)
		}
		lists = c.get(b.Bytes())
		b.Spoil()
		if !slices.EqualFunc(lists, want, bytes.Equal) {
			t.Errorf("%s: what was handed in is kept", what)
		}
	}
}
