// Package hkdf is layer 2: keys out of keys: see shared/doc/02-hkdf.md.
package hkdf

import (
	"slices"

	"relay/api"
	"relay/sha"
)

const (
	// maxOut is what 255 sums give: a sum's number stands in one byte.
	maxOut = 255 * api.HashSize
	// family stands ahead of every label.
	family = "tls13 "
	// maxLabel and maxContext follow from their counts, which stand in one byte.
	maxLabel   = 255 - len(family)
	maxContext = 255
)

// Extract: of a salt and a secret; Expand: so many bytes, for a purpose; Label: for a named one.
func Extract(salt, secret []byte) [32]byte { return sha.Mac(salt, secret) }

func Expand(key [32]byte, info []byte, n int) ([]byte, api.Errno) {
	if n < 0 || n > maxOut {
		return nil, api.ErrArg
	}
	var out, last []byte
	for i := 1; len(out) < n; i++ {
		sum := sha.Mac(key[:], slices.Concat(last, info, []byte{byte(i)}))
		last = sum[:]
		out = append(out, last...)
	}
	return out[:n:n], api.OK
}

func Label(key [32]byte, label string, context []byte, n int) ([]byte, api.Errno) {
	if len(label) < 1 || len(label) > maxLabel || len(context) > maxContext {
		return nil, api.ErrArg
	}
	info := []byte{byte(n >> 8), byte(n), byte(len(family) + len(label))}
	info = append(info, family...)
	info = append(info, label...)
	info = append(info, byte(len(context)))
	info = append(info, context...)
	return Expand(key, info, n)
}
