package sender_test

import (
	"bytes"
	"testing"

	"relay/api"
	"relay/probe"
	"relay/record"
	"relay/sender"
)

// begin is a Sender of an epoch, at a number.
func begin(epoch, seq int) sender.Sender {
	return sender.Sender{Next: sender.Seal{Secret: probe.Array(1), Epoch: epoch, Seq: seq}, Until: sender.Free}
}

// places holds by which epochs and numbers was sealed against others.
func places(t *testing.T, what string, s sender.Sender, want ...[2]int) {
	t.Helper()
	if len(s.Seals) != len(want) {
		t.Fatalf("%s: %d are sealed, not %d", what, len(s.Seals), len(want))
	}
	for i, seal := range s.Seals {
		if seal.Epoch != want[i][0] || seal.Seq != want[i][1] {
			t.Errorf("%s: number %d of %d, not %v", what, seal.Seq, seal.Epoch, want[i])
		}
	}
}

func TestTextTurnsAheadOfTheLastNumbers(t *testing.T) {
	s := begin(2, 60)
	if e := s.Text(record.Data, make([]byte, 3*256)); e != api.OK {
		t.Fatal(e)
	}
	places(t, "epoch 2", s, [2]int{2, 60}, [2]int{2, 61}, [2]int{2, 62}, [2]int{3, 0})
	if s.Next.Secret != record.Next(probe.Array(1)) || s.Next.Epoch != 3 || s.Next.Seq != 1 {
		t.Errorf("%v", s.Next)
	}
	s = begin(1, 61)
	s.Text(record.Data, make([]byte, 3*256))
	places(t, "epoch 1", s, [2]int{1, 61}, [2]int{1, 62}, [2]int{1, 63})
	if e := s.Text(record.Data, []byte{1}); e != api.ErrEnd {
		t.Errorf("%d", e)
	}
}

func TestUntil(t *testing.T) {
	s := begin(2, 7)
	s.Until = func(epoch int) int { return map[int]int{2: 8, 3: 0}[epoch] }
	if e := s.Update(true); e != api.OK {
		t.Fatal(e)
	}
	if e := s.Alert(10); e != api.ErrGate || s.Wanted() != 8 || s.Next.Epoch != 3 {
		t.Errorf("%d, %d of %d is wanted", e, s.Wanted(), s.Next.Epoch)
	}
	s.Until = sender.Free
	if e := s.Alert(10); e != api.OK || s.Wanted() != 8 {
		t.Errorf("%d, %d is wanted", e, s.Wanted())
	}
	places(t, "then", s, [2]int{2, 7}, [2]int{3, 0})
}

func TestPlain(t *testing.T) {
	s := begin(0, 0)
	s.Plain(record.Handshake, make([]byte, 257))
	s.Alert(0)
	s.Alert(50)
	want := append(append([]byte{22, 3, 3, 1, 0}, make([]byte, 256)...), 22, 3, 3, 0, 1, 0, 21, 3, 3, 0, 2, 1, 0, 21, 3, 3, 0, 2, 2, 50)
	if !bytes.Equal(s.Sent, want) || len(s.Seals) > 0 {
		t.Errorf("%x", s.Sent)
	}
}
