package hello

import (
	"relay/api"
	"relay/cursor"
	"relay/sha"
)

// noPsk is the Psk of a server that took no ticket.
const noPsk = -1

// retryRandom is what a retry has in place of random bytes.
func retryRandom() [32]byte { return sha.Sum([]byte("HelloRetryRequest")) }

// isServer: has it bytes?
func isServer(s Server) bool {
	return len(s.Session) <= mostSession && isU16(s.Suite) && isU16(s.Version) && isU16(s.Share.Group) &&
		(s.Psk == noPsk || isU16(s.Psk)) &&
		(s.Retry && isRetry(s) || !s.Retry && isAnswer(s))
}

// isRetry: of a retry: does it ask for something, and tells no more?
func isRetry(s Server) bool {
	return (s.Share.Group != 0 || len(s.Cookie) > 0) &&
		len(s.Cookie) <= mostCookie && len(s.Share.Key) == 0 && s.Psk == noPsk
}

// isAnswer: of what isn't a retry: is it none in its bytes, too, and has a key just where it has a group?
func isAnswer(s Server) bool {
	hasGroup := s.Share.Group != 0
	return s.Random != retryRandom() && len(s.Cookie) == 0 &&
		(hasGroup && isKey(s.Share.Key) || !hasGroup && len(s.Share.Key) == 0)
}

func putServer(s Server) []byte {
	random := s.Random
	if s.Retry {
		random = retryRandom()
	}
	b := putHead(random, s.Session)
	b = cursor.PutUint(b, s.Suite, 2)
	b = cursor.PutUint(b, method, 1)
	all := putExtension(nil, kindVersions, cursor.PutUint(nil, s.Version, 2))
	if s.Share.Group != 0 {
		all = putExtension(all, kindShares, putShare(s))
	}
	all = putListed(all, kindCookie, 2, s.Cookie)
	if s.Psk != noPsk {
		all = putExtension(all, kindIds, cursor.PutUint(nil, s.Psk, 2))
	}
	return cursor.PutVector(b, all, 2)
}

func putShare(s Server) []byte {
	b := cursor.PutUint(nil, s.Share.Group, 2)
	if s.Retry {
		return b
	}
	return cursor.PutVector(b, s.Share.Key, 2)
}

// getServer holds what it read against isServer: bytes that tell of a server what can't be are none's.
func getServer(b []byte) (Server, api.Errno) {
	r := cursor.New(b)
	s := Server{Version: legacy, Psk: noPsk}
	s.Random, s.Session = getHead(r)
	if s.Random == retryRandom() {
		s.Retry, s.Random = true, [32]byte{}
	}
	s.Suite = r.Uint(2)
	if r.Uint(1) != method {
		r.Fail()
	}
	getExtensions(r, func(kind int, in *cursor.Reader) bool { return takeOfServer(&s, kind, in) })
	if !isServer(s) {
		r.Fail()
	}
	return s, r.Done()
}

// takeOfServer reads an extension of a server into s; false: its kind isn't named.
func takeOfServer(s *Server, kind int, in *cursor.Reader) bool {
	switch kind {
	case kindVersions:
		s.Version = in.Uint(2)
	case kindShares:
		s.Share.Group = in.Uint(2)
		if !s.Retry {
			s.Share.Key = in.Vector(2, 1, mostKey)
		}
	case kindCookie:
		s.Cookie = in.Vector(2, 1, mostCookie)
	case kindIds:
		s.Psk = in.Uint(2)
	default:
		return false
	}
	return true
}
