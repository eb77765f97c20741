package shell_test

import (
	"slices"
	"strconv"
	"strings"
	"testing"

	"relay/shell"
)

// pair is a line, and what is told of it.
type pair struct{ line, told string }

// hold fails, if lines, one behind the other, aren't told as they should.
func hold(t *testing.T, what string, pairs ...pair) {
	t.Helper()
	var text strings.Builder
	for _, p := range pairs {
		text.WriteString(p.line + "\n")
	}
	out := lines(shell.Run(text.String()))
	if len(out) != len(pairs) {
		t.Fatalf("%s: %d lines of %d", what, len(out), len(pairs))
	}
	for i, p := range pairs {
		if out[i] != p.told {
			t.Errorf("%s: line %d, %.60q: %.60q, not %.60q", what, i, p.line, out[i], p.told)
		}
	}
}

// lines is what a text has of them, each of which has a line end behind.
func lines(text string) []string {
	if text == "" {
		return nil
	}
	return strings.Split(strings.TrimSuffix(text, "\n"), "\n")
}

// opened is how a connection comes to be open on both sides.
func opened(conn string) []pair {
	return []pair{{"begin " + conn, "ok"}, {"come " + conn, "0"}, {"come " + conn, "0"}}
}

// with is pairs, and others behind.
func with(pairs []pair, more ...pair) []pair { return slices.Concat(pairs, more) }

func TestLineEnds(t *testing.T) {
	for _, c := range []pair{
		{"", ""}, {"\n", "?\n"}, {"\n\n", "?\n?\n"}, {"seals", "0\n"}, {"seals\n", "0\n"}, {"seals\n\n", "0\n?\n"},
		{"\nseals", "?\n0\n"}, {"seals\n ", "0\n?\n"}, {"seals\r\nseals", "?\n0\n"}, {"seals\u2028seals", "?\n"},
		{"\xe2\nseals", "?\n0\n"}, {"seals\x00", "?\n"},
	} {
		if out := shell.Run(c.line); out != c.told {
			t.Errorf("%q: %q, not %q", c.line, out, c.told)
		}
	}
}

func TestOtherLines(t *testing.T) {
	var pairs []pair
	for _, line := range []string{
		"", " ", "  ", "x", "Seals", "SEALS", "seal", "sealss", " seals", "seals ", "seals 1", "crash ", "crash 1", " crash",
		"ok", "?", "begin", "begin ", "begin  1", " begin 1", "begin 1 ", "begin 1 1", "begin 4", "begin 9", "begin /", "begin :",
		"begin -1", "begin 01", "begin 10", "begin +1", "begin x", "begin \xff", "begin \u0661", "begin \uff11", "begin\t1", "begin\u00a01", "Begin 1",
	} {
		pairs = append(pairs, pair{line, "?"})
	}
	for _, name := range []string{"come", "turn", "give", "close", "freeze", "heard", "got"} {
		for _, rest := range []string{"", " ", " 4", " 12", "  1", " 1 ", " 1 1", " 1\r"} {
			pairs = append(pairs, pair{name + rest, "?"})
		}
	}
	for _, name := range []string{"say", "tell"} {
		for _, rest := range []string{"", " ", " 1", " 1 ", " 1  ", " 1  a", " 1 a ", " 1 a b", " 4 a", "  1 a", " a 1", " 11 a"} {
			pairs = append(pairs, pair{name + rest, "?"})
		}
	}
	// whether there is such a connection doesn't count, nor does any of them begin one
	hold(t, "before", pairs...)
	hold(t, "behind", with(opened("1"), with(pairs, pair{"begin 1", "error 11"}, pair{"heard 1", ""}, pair{"got 1", ""}, pair{"seals", "1"})...)...)
}

func TestNeverBegun(t *testing.T) {
	var pairs []pair
	for _, conn := range []string{"0", "1", "2", "3"} {
		for _, name := range []string{"come", "turn", "give", "close", "freeze", "heard", "got"} {
			pairs = append(pairs, pair{name + " " + conn, "error 13"})
		}
		pairs = append(pairs, pair{"say " + conn + " a", "error 13"}, pair{"tell " + conn + " a", "error 13"})
	}
	hold(t, "all", with(pairs, pair{"seals", "0"}, pair{"crash", "nobody"})...)
	hold(t, "another one was begun", with(opened("0"), pairs[len(pairs)/4:]...)...)
}

func TestTexts(t *testing.T) {
	for _, text := range []string{
		"a", "0", "?", "ok", "\x00", "\r", "\t", "\u00a0", "\u2028", "\u00e9\u4e16\U0001f600", "\xff", "\xc3", "\xe2\x82", "a\xf0\x9f\x98b", "\ufffd", "\xed\xa0\x80",
		strings.Repeat("x", 256), strings.Repeat("y", 257), strings.Repeat("\xff", 3000), strings.Repeat("\u4e16z", 10000),
	} {
		count := strconv.Itoa(len(text))
		hold(t, "text", with(opened("2"), pair{"say 2 " + text, "ok"}, pair{"heard 2", text}, pair{"tell 2 " + text, "ok"}, pair{"got 2", ""},
			pair{"come 2", count}, pair{"got 2", text}, pair{"heard 2", text}, pair{"come 2", "0"})...)
	}
}

func TestAllTogether(t *testing.T) {
	hold(t, "rows", with(opened("3"), pair{"say 3 a", "ok"}, pair{"say 3 bc", "ok"}, pair{"heard 3", "abc"}, pair{"heard 3", "abc"}, pair{"tell 3 d", "ok"}, pair{"tell 3 ef", "ok"},
		pair{"come 3", "3"}, pair{"tell 3 g", "ok"}, pair{"come 3", "1"}, pair{"got 3", "defg"}, pair{"got 3", "defg"}, pair{"heard 3", "abc"})...)
	hold(t, "ahead of the Finished", pair{"begin 0", "ok"}, pair{"come 0", "0"}, pair{"tell 0 early", "ok"}, pair{"say 0 x", "error 9"}, pair{"come 0", "5"}, pair{"got 0", "early"}, pair{"say 0 x", "ok"}, pair{"heard 0", "x"})
	hold(t, "across a crash", with(opened("0"), pair{"tell 0 a", "ok"}, pair{"come 0", "1"}, pair{"say 0 x", "ok"}, pair{"freeze 0", "ok"}, pair{"tell 0 b", "ok"}, pair{"crash", "0 resumed"},
		pair{"come 0", "1"}, pair{"got 0", "ab"}, pair{"say 0 y", "ok"}, pair{"heard 0", "xy"}, pair{"crash", "0 aborted"}, pair{"got 0", "ab"}, pair{"heard 0", "xy"})...)
}

func TestTurnAndGive(t *testing.T) {
	hold(t, "turn", with(opened("1"), pair{"turn 1", "ok"}, pair{"say 1 a", "ok"}, pair{"tell 1 b", "ok"}, pair{"turn 1", "ok"}, pair{"tell 1 c", "ok"}, pair{"come 1", "2"}, pair{"got 1", "bc"}, pair{"heard 1", "a"}, pair{"seals", "4"})...)
	hold(t, "give", with(opened("1"), pair{"give 1", "ok"}, pair{"give 1", "ok"}, pair{"heard 1", ""}, pair{"come 1", "0"}, pair{"say 1 a", "ok"}, pair{"heard 1", "a"}, pair{"seals", "4"})...)
	hold(t, "more than there are tickets", with(opened("1"), with(repeat("give 1", "ok", 20), pair{"seals", "21"})...)...)
}

func TestErrors(t *testing.T) {
	hold(t, "not open", pair{"begin 2", "ok"}, pair{"say 2 a", "error 9"}, pair{"tell 2 a", "error 9"}, pair{"turn 2", "error 9"}, pair{"give 2", "error 9"}, pair{"heard 2", ""}, pair{"got 2", ""},
		pair{"begin 2", "error 11"}, pair{"come 2", "0"}, pair{"turn 2", "error 9"}, pair{"give 2", "error 9"}, pair{"come 2", "0"}, pair{"turn 2", "ok"})
	ended := []pair{
		{"close 2", "error 13"}, {"say 2 a", "error 13"}, {"turn 2", "error 13"}, {"give 2", "error 13"}, {"freeze 2", "error 13"}, {"come 2", "error 13"}, {"begin 2", "error 11"},
	}
	hold(t, "closed", with(opened("2"), with([]pair{{"say 2 a", "ok"}, {"tell 2 b", "ok"}, {"close 2", "ok"}, {"tell 2 c", "error 9"}, {"heard 2", "a"}, {"got 2", ""}, {"seals", "3"}},
		with(ended, pair{"heard 2", "a"}, pair{"got 2", ""}, pair{"seals", "3"}, pair{"crash", "nobody"}, pair{"begin 2", "error 11"})...)...)...)
	// no key was there by then
	hold(t, "closed at its beginning", with([]pair{{"begin 2", "ok"}, {"close 2", "ok"}, {"tell 2 a", "error 9"}, {"seals", "0"}}, ended...)...)
	// a peer doesn't hear of a crash
	hold(t, "aborted", with(opened("2"), with([]pair{{"crash", "2 aborted"}, {"tell 2 a", "ok"}}, with(ended, pair{"got 2", ""}, pair{"tell 2 a", "ok"})...)...)...)
}

func TestCrash(t *testing.T) {
	all := with(opened("3"), with(opened("0"), with(opened("2"), with(opened("1"), pair{"freeze 2", "ok"}, pair{"freeze 0", "ok"}, pair{"say 0 a", "ok"})...)...)...)
	hold(t, "all", with(all, pair{"crash", "0 aborted 1 aborted 2 resumed 3 aborted"}, pair{"crash", "2 resumed"}, pair{"say 2 a", "ok"}, pair{"heard 2", "a"}, pair{"crash", "2 aborted"}, pair{"crash", "nobody"},
		pair{"begin 2", "error 11"}, pair{"heard 0", "a"})...)
	hold(t, "nothing was done", pair{"begin 1", "ok"}, pair{"freeze 1", "ok"}, pair{"crash", "1 resumed"}, pair{"come 1", "0"}, pair{"come 1", "0"}, pair{"say 1 a", "ok"}, pair{"heard 1", "a"})
	hold(t, "what came behind the snapshot is lost", with(opened("1"), pair{"freeze 1", "ok"}, pair{"tell 1 a", "ok"}, pair{"come 1", "1"}, pair{"crash", "1 resumed"}, pair{"say 1 x", "ok"},
		pair{"tell 1 b", "ok"}, pair{"come 1", "0"}, pair{"got 1", "a"}, pair{"heard 1", "x"}, pair{"say 1 y", "error 13"}, pair{"tell 1 c", "error 9"}, pair{"seals", "4"})...)
	hold(t, "another one begins", with(opened("1"), with([]pair{{"crash", "1 aborted"}}, with(opened("0"), pair{"say 0 a", "ok"}, pair{"heard 0", "a"})...)...)...)
}

func TestSeals(t *testing.T) {
	hold(t, "all", with(opened("1"), pair{"seals", "1"}, pair{"say 1 a", "ok"}, pair{"seals", "2"}, pair{"say 1 " + strings.Repeat("a", 513), "ok"}, pair{"seals", "5"}, pair{"turn 1", "ok"}, pair{"seals", "6"},
		pair{"give 1", "ok"}, pair{"seals", "7"}, pair{"freeze 1", "ok"}, pair{"seals", "8"}, pair{"tell 1 a", "ok"}, pair{"come 1", "1"}, pair{"seals", "8"}, pair{"crash", "1 resumed"}, pair{"seals", "8"},
		pair{"freeze 1", "ok"}, pair{"seals", "9"}, pair{"crash", "1 resumed"}, pair{"close 1", "ok"}, pair{"seals", "10"}, pair{"crash", "nobody"}, pair{"crash", "nobody"}, pair{"seals", "10"})...)
	hold(t, "keys run out", with(opened("1"), with(repeat("say 1 a", "ok", 62), pair{"seals", "63"}, pair{"say 1 b", "ok"}, pair{"seals", "65"}, pair{"heard 1", strings.Repeat("a", 62) + "b"})...)...)
}

func TestSameAgain(t *testing.T) {
	text := "begin 1\ncome 1\ncome 1\nsay 1 hi\ncrash\nseals\nheard 1"
	if a, b := shell.Run(text), shell.Run(text); a != b || a != "ok\n0\n0\nok\n1 aborted\n2\nhi\n" {
		t.Errorf("%q, %q", a, b)
	}
}

// repeat is a line, so many times.
func repeat(line, told string, times int) []pair {
	var out []pair
	for range times {
		out = append(out, pair{line, told})
	}
	return out
}
