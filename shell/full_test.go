package shell_test

import "testing"

// area is how many sectors the journal of 512 has for entries: two areas of them, behind two slots.
const area = 255

func TestFullDisk(t *testing.T) {
	// it began, the handshake's numbers, and those of each key from there on: a sector each
	pairs := with(opened("0"), repeat("turn 0", "ok", area-2)...)
	hold(t, "full", with(pairs, pair{"turn 0", "error 5"}, pair{"say 0 a", "error 5"}, pair{"give 0", "error 5"}, pair{"freeze 0", "error 5"}, pair{"close 0", "error 5"}, pair{"begin 1", "error 5"}, pair{"come 1", "error 13"},
		pair{"tell 0 abc", "ok"}, pair{"come 0", "3"}, pair{"got 0", "abc"}, pair{"heard 0", ""}, pair{"seals", "254"},
		pair{"crash", "0 aborted"}, pair{"seals", "254"}, pair{"begin 1", "ok"}, pair{"come 1", "0"}, pair{"come 1", "0"}, pair{"say 1 a", "ok"}, pair{"heard 1", "a"})...)
}

// filledUp is a disk without room, on which numbers of connection 0's last key are reserved yet; 1 was begun.
func filledUp() []pair {
	return with(opened("0"), with(repeat("turn 0", "ok", area-4), pair{"begin 1", "ok"}, pair{"say 0 a", "ok"})...)
}

func TestFullBehindAReservation(t *testing.T) {
	hold(t, "say", with(filledUp(), pair{"say 0 b", "ok"}, pair{"turn 0", "ok"}, pair{"say 0 c", "error 5"}, pair{"heard 0", "ab"}, pair{"seals", "255"}, pair{"crash", "0 aborted 1 aborted"})...)
	hold(t, "begin", with(filledUp(), pair{"begin 2", "error 5"}, pair{"heard 2", "error 13"})...)
	// its alert was sealed by then, so that nothing more may be, but nobody hears it
	hold(t, "close", with(filledUp(), pair{"close 0", "error 5"}, pair{"seals", "254"}, pair{"say 0 b", "error 13"}, pair{"close 0", "error 13"}, pair{"tell 0 c", "ok"}, pair{"come 0", "error 13"}, pair{"heard 0", "a"}, pair{"crash", "0 aborted 1 aborted"})...)
	// what came isn't on its way any more
	hold(t, "come", with(filledUp(), pair{"come 1", "error 5"}, pair{"heard 1", ""}, pair{"come 1", "0"}, pair{"tell 1 a", "error 9"}, pair{"say 1 a", "error 9"}, pair{"seals", "253"})...)
}

func TestSnapshotsMakeRoom(t *testing.T) {
	var pairs []pair
	for range 3 * area {
		pairs = append(pairs, pair{"turn 0", "ok"}, pair{"come 0", "0"}, pair{"freeze 0", "ok"})
	}
	hold(t, "turns", with(opened("0"), with(pairs, pair{"crash", "0 resumed"}, pair{"say 0 a", "ok"}, pair{"tell 0 b", "ok"}, pair{"come 0", "1"}, pair{"heard 0", "a"})...)...)
}
