// Package terms has what both sides of a connection agree on: one suite, one group, and of which messages' bytes sums are.
package terms

import (
	"slices"

	"relay/hello"
	"relay/message"
	"relay/sha"
)

// The numbers of the one suite, group, version, scheme and mode of tickets.
const (
	Suite   = 0x1303
	Group   = 0x001d
	Version = 0x0304
	Scheme  = 0xfe01
	Mode    = 1
)

// headSize is how many bytes of a message stand ahead of its body.
const headSize = 4

// Message is a message's bytes, of a kind and a body that can be.
func Message(kind int, body []byte) []byte {
	b, _ := message.Put(message.Msg{Kind: kind, Body: body})
	return b
}

// Log is what stands for a greeting that was answered by a retry, and for that: the greeting counts by its sum alone.
func Log(greeting, retry []byte) []byte {
	sum := sha.Sum(greeting)
	return append(Message(message.Hash, sum[:]), retry...)
}

// Bound is the sum that a ticket's binder is of: of the log ahead, and of the greeting up to its binders' count.
func Bound(log, greeting []byte) [32]byte {
	n, _ := hello.Cut(greeting[headSize:])
	return sha.Sum(slices.Concat(log, greeting[:headSize+n]))
}
