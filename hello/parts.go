package hello

import (
	"slices"

	"relay/cursor"
)

// legacy is the number that each greeting begins with; a server that says nothing else of its version means it.
const legacy = 0x0303

// Kinds of extensions.
const (
	kindGroups   = 10
	kindSchemes  = 13
	kindIds      = 41
	kindVersions = 43
	kindCookie   = 44
	kindModes    = 45
	kindShares   = 51
)

// Limits of lists and of texts.
const (
	mostSession = 32
	mostSuites  = 8
	mostListed  = 4
	mostCookie  = 64
	mostKey     = 64
	mostTicket  = 255
	binderSize  = 32
	mostU16     = 1<<16 - 1
	mostU32     = 1<<32 - 1
)

func isU16(n int) bool { return n >= 0 && n <= mostU16 }

// isList: are there at most so many, each of which is right?
func isList[T any](list []T, most int, isRight func(T) bool) bool {
	return len(list) <= most && !slices.ContainsFunc(list, func(x T) bool { return !isRight(x) })
}

func isKey(b []byte) bool { return len(b) >= 1 && len(b) <= mostKey }

// putHead is what both greetings begin with.
func putHead(random [32]byte, session []byte) []byte {
	b := append(cursor.PutUint(nil, legacy, 2), random[:]...)
	return cursor.PutVector(b, session, 1)
}

func getHead(r *cursor.Reader) (random [32]byte, session []byte) {
	if r.Uint(2) != legacy {
		r.Fail()
	}
	copy(random[:], r.Bytes(len(random)))
	return random, r.Vector(1, 0, mostSession)
}

func putNumbers(list []int) []byte {
	var b []byte
	for _, n := range list {
		b = cursor.PutUint(b, n, 2)
	}
	return b
}

func getNumber(r *cursor.Reader) int { return r.Uint(2) }

// getList reads a vector of one to so many things, each by one, and just these.
func getList[T any](r *cursor.Reader, width, most int, one func(*cursor.Reader) T) []T {
	in := cursor.New(r.Vector(width, 1, mostU16))
	var list []T
	for in.Left() > 0 {
		list = append(list, one(in))
	}
	if in.Wrong() || len(list) > most {
		r.Fail()
	}
	return list
}

// putExtension is all, and an extension behind it.
func putExtension(all []byte, kind int, body []byte) []byte {
	return cursor.PutVector(cursor.PutUint(all, kind, 2), body, 2)
}

// putListed is all, and behind it an extension of one list, if there is something in it.
func putListed(all []byte, kind, width int, list []byte) []byte {
	if len(list) == 0 {
		return all
	}
	return putExtension(all, kind, cursor.PutVector(nil, list, width))
}

// getExtensions reads a vector of extensions, in any order, each kind once at most. Of a kind that isn't named take goes nowhere: it is left out.
func getExtensions(r *cursor.Reader, take func(kind int, in *cursor.Reader) (isNamed bool)) {
	all := cursor.New(r.Vector(2, 0, mostU16))
	seen := map[int]struct{}{}
	for all.Left() > 0 {
		kind := all.Uint(2)
		in := cursor.New(all.Vector(2, 0, mostU16))
		if _, isTwice := seen[kind]; isTwice {
			all.Fail()
		}
		seen[kind] = struct{}{}
		isNamed := take(kind, in)
		if in.Wrong() || isNamed && in.Left() > 0 {
			all.Fail()
		}
	}
	if all.Wrong() {
		r.Fail()
	}
}
