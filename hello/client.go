package hello

import (
	"bytes"

	"relay/api"
	"relay/cursor"
)

// method is all that a client may tell of packing.
const method = 0

// isClient: has it bytes?
func isClient(c Client) bool {
	return len(c.Session) <= mostSession &&
		len(c.Suites) >= 1 && isList(c.Suites, mostSuites, isU16) &&
		isList(c.Versions, mostListed, isU16) &&
		isList(c.Groups, mostListed, isU16) &&
		isList(c.Schemes, mostListed, isU16) &&
		isList(c.Shares, mostListed, isShare) &&
		len(c.Cookie) <= mostCookie &&
		len(c.Modes) <= mostListed &&
		isList(c.Ids, mostListed, isId) &&
		len(c.Binders) == len(c.Ids) && isList(c.Binders, mostListed, isBinder)
}

func isShare(s Share) bool { return isU16(s.Group) && isKey(s.Key) }

func isId(id Id) bool {
	return len(id.Ticket) >= 1 && len(id.Ticket) <= mostTicket && id.Age >= 0 && id.Age <= mostU32
}

func isBinder(b []byte) bool { return len(b) == binderSize }

func putClient(c Client) []byte {
	b := putHead(c.Random, c.Session)
	b = cursor.PutVector(b, putNumbers(c.Suites), 2)
	b = cursor.PutVector(b, []byte{method}, 1)
	all := putListed(nil, kindVersions, 1, putNumbers(c.Versions))
	all = putListed(all, kindGroups, 2, putNumbers(c.Groups))
	all = putListed(all, kindSchemes, 2, putNumbers(c.Schemes))
	all = putListed(all, kindShares, 2, putShares(c.Shares))
	all = putListed(all, kindCookie, 2, c.Cookie)
	all = putListed(all, kindModes, 1, c.Modes)
	if len(c.Ids) > 0 {
		all = putExtension(all, kindIds, putIds(c.Ids, c.Binders))
	}
	return cursor.PutVector(b, all, 2)
}

func putShares(shares []Share) []byte {
	var b []byte
	for _, s := range shares {
		b = cursor.PutVector(cursor.PutUint(b, s.Group, 2), s.Key, 2)
	}
	return b
}

func putIds(ids []Id, binders [][]byte) []byte {
	var b, behind []byte
	for i, id := range ids {
		b = cursor.PutUint(cursor.PutVector(b, id.Ticket, 2), id.Age, 4)
		behind = cursor.PutVector(behind, binders[i], 1)
	}
	return cursor.PutVector(cursor.PutVector(nil, b, 2), behind, 2)
}

func getClient(b []byte) (Client, api.Errno) {
	r := cursor.New(b)
	var c Client
	c.Random, c.Session = getHead(r)
	c.Suites = getList(r, 2, mostSuites, getNumber)
	if !bytes.Equal(r.Vector(1, 1, 1), []byte{method}) {
		r.Fail()
	}
	getExtensions(r, func(kind int, in *cursor.Reader) bool { return takeOfClient(&c, kind, in) })
	return c, r.Done()
}

// takeOfClient reads an extension of a client into c; false: its kind isn't named. Behind Ids none may stand.
func takeOfClient(c *Client, kind int, in *cursor.Reader) bool {
	if len(c.Ids) > 0 {
		in.Fail()
	}
	switch kind {
	case kindVersions:
		c.Versions = getList(in, 1, mostListed, getNumber)
	case kindGroups:
		c.Groups = getList(in, 2, mostListed, getNumber)
	case kindSchemes:
		c.Schemes = getList(in, 2, mostListed, getNumber)
	case kindShares:
		c.Shares = getList(in, 2, mostListed, getShare)
	case kindCookie:
		c.Cookie = in.Vector(2, 1, mostCookie)
	case kindModes:
		c.Modes = in.Vector(1, 1, mostListed)
	case kindIds:
		c.Ids = getList(in, 2, mostListed, getId)
		c.Binders = getList(in, 2, mostListed, getBinder)
		if len(c.Binders) != len(c.Ids) {
			in.Fail()
		}
	default:
		return false
	}
	return true
}

func getShare(r *cursor.Reader) Share {
	return Share{Group: r.Uint(2), Key: r.Vector(2, 1, mostKey)}
}

func getId(r *cursor.Reader) Id {
	return Id{Ticket: r.Vector(2, 1, mostTicket), Age: r.Uint(4)}
}

func getBinder(r *cursor.Reader) []byte { return r.Vector(1, binderSize, binderSize) }
