package server_test

import (
	"testing"

	"relay/api"
	"relay/probe"
	"relay/server"
)

// came is a record that another program's client sent to this server, to which the random bytes were 1, 32 noughts, 4, and noughts.
type came struct {
	kind int
	body string
}

// firstConnection begins with a ticket that both knew; the ticket that it was given begins secondConnection, behind a retry.
func firstConnection() []came {
	return []came{
		{22, "010000e1030349b56c0497b6cf198e814aaceb1cc8cfb075c6d9198459997a4954a6c58d9c2b20265bf3fe6430ba9a67c8b9924286215be07cebf3f74cf606b3b8a70481d8b4e20004130300ff01000094000b000403000102000a00040002001d002300000016000000170000000d000400020804002b0003020304002d00020101003300260024001d002087c518d7cee1a6c67b456ec66a380608c05297bdee23ff70a53c3c1c5d301a13002900350010000a7469636b65742d6f6e65000003e8002120384476d2f2effffd354bfd9f3cb079a90497f1ba1a4cf73426f8d89aa9978acc"},
		{20, "01"},
		{23, "370db766c2ba225157671c8996f820078b5a7e48122d741f8cef5749bae37386da857b29c10dab6c24d69ef18f2235dd487c06bd6c"},
		{23, "edcdd47d245d5e678c60055d1418363b4e32dafc32f5"},
		{23, "406b244c65262b29d40a15b7f72e9efd9e8318b18acf39"},
		{23, "991fa960261eb192ba189152bf69eb1303f8980b94a2"},
		{23, "09aa14b08678bacc4991486647537fd6ad32fad80cd0b6963f"},
		{23, "7ee8cdf3b802a79e6b84830ed03fd786f0f9d8"},
	}
}

func secondConnection() []came {
	return []came{
		{22, "010000f4030301246120b251e9a7dcd8ba0aded51eaa0d34d7f23aaa07180a1e63cdd3b94db9203aab3441bea85a64616503e62466a80c03084b223dd352b633fce5e83ee34e720004130300ff010000a7000b000403000102000a00060004001e001d002300000016000000170000000d000400020804002b0003020304002d000201010033003e003c001e00382bd74fd954c69910a121dc3d6434e8f4e5eca8bcf175187caf1f4e42ffa446e24bbaadee4c2eb470cf65703e3f4de8b3c19897dc3228d0d80029002e00090003617879000003e80021205b09a038d4ff8bc7e8725f2e259f2d3d1186a0f52968a69b64f74c44b0cd936f"},
		{20, "01"},
		{22, "010000dc030301246120b251e9a7dcd8ba0aded51eaa0d34d7f23aaa07180a1e63cdd3b94db9203aab3441bea85a64616503e62466a80c03084b223dd352b633fce5e83ee34e720004130300ff0100008f000b000403000102000a00060004001e001d002300000016000000170000000d000400020804002b0003020304002d00020101003300260024001d0020ef4a53ddcd7aec2fe0436450bfac052acccbb678cdb22909131e34b50d6ca5460029002e00090003617879000003e80021209b53e8a084c4f824a31f84378e186f8c0cb3fe124d18f7f4b105bd27e418e085"},
		{23, "c5d16d0f0fe07c3a78cb75af5aa599facc3ac9e674dbfc7c354cb9914541c5a40000e3fe4f608134f503b2aae342d9db2ce6ccfc27"},
		{23, "95db90335b4d9dd0d1a92836a6d1c9f826a16d115348"},
		{23, "16f94ddd06a241525c52162fb13ef522f7b49f9f56c02b35ac10af"},
		{23, "f83c1ce7b1a1884977517d9d57103fc3d57e7d"},
	}
}

// playTo has all come, gives a ticket and asks for an update as soon as it may, and tells what was delivered, and the ticket's secret.
func playTo(t *testing.T, h server.Host, all []came, ticket, nonce []byte) (server.State, string, [32]byte) {
	t.Helper()
	s, data := server.New(), ""
	var secret [32]byte
	for i, x := range all {
		next, d, e := server.Take(s, h, free(9), x.kind, probe.Hex(x.body), [64]byte{1, 33: 4})
		if e != api.OK || next.Phase == server.Closed && i < len(all)-1 {
			t.Fatalf("record %d: error %d, phase %d, alert %d", i, e, next.Phase, next.Alert)
		}
		if s.Phase == server.Wait && next.Phase == server.Open {
			next, _, secret, _ = server.Give(next, free(9), 600, 0, nonce, ticket)
			next, _, _ = server.Update(next, free(9), true)
		}
		s, data = next, data+string(d.Data)
	}
	return s, data, secret
}

// TestKnownConnections: P16.1, P5; another program's client knew what this server sealed, asked it for keys, and was resumed.
func TestKnownConnections(t *testing.T) {
	var psk [32]byte
	for i := range psk {
		psk[i] = byte(i)
	}
	h := server.Host{Key: [32]byte{5}, Chain: [][]byte{{1}}, Tickets: []server.Known{{Ticket: []byte("ticket-one"), Psk: psk}}}
	s, data, secret := playTo(t, h, firstConnection(), []byte("axy"), []byte{1, 2, 3, 0})
	if s.Phase != server.Closed || s.Alert != 0 || string(s.Used) != "ticket-one" || s.InEpoch != 4 || data != "hello\nafter K\n" {
		t.Errorf("phase %d, alert %d, by %q, epoch %d, data %q", s.Phase, s.Alert, s.Used, s.InEpoch, data)
	}
	h.Tickets = append(h.Tickets, server.Known{Ticket: []byte("axy"), Psk: secret})
	s, data, _ = playTo(t, h, secondConnection(), []byte("bxy"), []byte{1, 2, 3, 1})
	if s.Phase != server.Closed || s.Alert != 0 || string(s.Used) != "axy" || s.InEpoch != 3 || data != "hello two\n" {
		t.Errorf("phase %d, alert %d, by %q, epoch %d, data %q", s.Phase, s.Alert, s.Used, s.InEpoch, data)
	}
}
