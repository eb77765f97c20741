package snap_test

import (
	"bytes"
	"encoding/binary"
	"reflect"
	"slices"

	"relay/probe"
	"relay/server"
)

// counts is which lengths a State's lists and which numbers it may have at most.
const (
	logSize   = 20000
	partSize  = 4096
	usedSize  = 255
	headSize  = 2
	secretsAt = headSize + 2
)

// full is a State in which no field is as New has it, other ones for each seed.
func full(seed int) server.State {
	s := server.State{Phase: 1 + seed%4, Alert: 40 + seed, Sealed: true, InSeq: 7 + seed, OutSeq: 9 + seed, InEpoch: 258 + seed, OutEpoch: 772 + seed}
	s.Log, s.Part, s.Used = probe.Bytes(30, seed), probe.Bytes(20, seed+1), probe.Bytes(10, seed+2)
	for i, x := range []*[32]byte{&s.Sum, &s.Secrets.Early, &s.Secrets.Hand, &s.Secrets.Master, &s.In, &s.Out, &s.Later} {
		*x = probe.Array(10*seed + i)
	}
	return s
}

// with is s, with one thing done to it.
func with(s server.State, do func(s *server.State)) server.State {
	do(&s)
	return s
}

// states are some that are Right: New, some full ones, and each edge of each field.
func states() []server.State {
	out := []server.State{server.New(), {}}
	for seed := range 20 {
		out = append(out, full(seed))
	}
	for _, s := range []server.State{server.New(), full(3)} {
		for phase := range 5 {
			out = append(out, with(s, func(s *server.State) { s.Phase = phase }))
		}
		for _, n := range []int{0, 1, 63, 64} {
			out = append(out, with(s, func(s *server.State) { s.InSeq = n }), with(s, func(s *server.State) { s.OutSeq = n }))
		}
		for _, n := range []int{0, 1, 255, 256, 65534, 65535} {
			out = append(out, with(s, func(s *server.State) { s.InEpoch = n }), with(s, func(s *server.State) { s.OutEpoch = n }))
		}
		for _, n := range []int{-1, 0, 1, 10, 254, 255} {
			out = append(out, with(s, func(s *server.State) { s.Alert = n }))
		}
		for _, n := range []int{0, 1, 255, 256, logSize - 1, logSize} {
			out = append(out, with(s, func(s *server.State) { s.Log = probe.Bytes(n, n) }))
		}
		for _, n := range []int{0, 1, 255, 256, partSize - 1, partSize} {
			out = append(out, with(s, func(s *server.State) { s.Part = probe.Bytes(n, n) }))
		}
		for _, n := range []int{0, 1, 2, 254, 255} {
			out = append(out, with(s, func(s *server.State) { s.Used = probe.Bytes(n, n) }))
		}
		out = append(out, with(s, func(s *server.State) { s.Sealed = !s.Sealed }))
	}
	return out
}

// laid is Put of a State that is Right, by the chapter's words.
func laid(s server.State, version int) []byte {
	u16 := func(b []byte, n int) []byte { return binary.BigEndian.AppendUint16(b, uint16(n)) }
	b := append(u16([]byte{byte(version), byte(s.Phase)}, len(s.Log)), s.Log...)
	b = slices.Concat(b, s.Sum[:], s.Secrets.Early[:], s.Secrets.Hand[:], s.Secrets.Master[:], s.In[:], s.Out[:], s.Later[:])
	b = u16(u16(append(b, byte(s.InSeq), byte(s.OutSeq)), s.InEpoch), s.OutEpoch)
	sealed := byte(0)
	if s.Sealed {
		sealed = 1
	}
	b = append(u16(append(b, sealed), len(s.Part)), s.Part...)
	if version >= 2 {
		b = append(append(b, byte(len(s.Used))), s.Used...)
	}
	if version >= 3 {
		b = u16(b, s.Alert+1)
	}
	return b
}

// seen is what a version has of s.
func seen(s server.State, version int) server.State {
	if version < 2 {
		s.Used = nil
	}
	if version < 3 {
		s.Alert = -1
	}
	return s
}

// same: are two States so, where an empty list is as none?
func same(a, b server.State) bool {
	for _, s := range []*server.State{&a, &b} {
		s.Log, s.Part, s.Used = bytes.Clone(s.Log), bytes.Clone(s.Part), bytes.Clone(s.Used)
		for _, list := range []*[]byte{&s.Log, &s.Part, &s.Used} {
			if len(*list) == 0 {
				*list = nil
			}
		}
	}
	return reflect.DeepEqual(a, b)
}
