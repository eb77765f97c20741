package gate_test

import (
	"math"
	"testing"

	"relay/api"
	"relay/gate"
	"relay/probe"
)

// mayBe is Right, by the chapter's words.
func mayBe(g gate.Gate) bool {
	for until := 0; until <= 64; until += 8 {
		for next := 0; next <= until; next++ {
			if g.Epoch >= 0 && g.Next == next && g.Until == until {
				return true
			}
		}
	}
	return false
}

// gates is all Gates with numbers from -9 to 73, and some with far ones, of a few epochs.
func gates() []gate.Gate {
	numbers := []int{math.MinInt, math.MinInt + 8, -64, 128, 1 << 32, 1<<32 + 8, math.MaxInt - 7, math.MaxInt}
	for i := -9; i <= 73; i++ {
		numbers = append(numbers, i)
	}
	var out []gate.Gate
	for _, epoch := range []int{math.MinInt, -1, 0, 1, 2, 65536, math.MaxInt - 1, math.MaxInt} {
		for _, next := range numbers {
			for _, until := range numbers {
				out = append(out, gate.Gate{Epoch: epoch, Next: next, Until: until})
			}
		}
	}
	return out
}

// TestNew: P14.1.
func TestNew(t *testing.T) {
	for epoch, want := range map[int]int{0: 0, 1: 1, 2: 2, 65536: 65536, math.MaxInt: math.MaxInt, -1: 0, -2: 0, math.MinInt: 0} {
		if g := gate.New(epoch); g != (gate.Gate{Epoch: want}) || !gate.Right(g) {
			t.Errorf("%d: %v", epoch, g)
		}
	}
}

// TestExample: P14.1.
func TestExample(t *testing.T) {
	g := gate.New(0)
	if h, n, e := gate.Use(g); h != (gate.Gate{}) || n != 0 || e != api.ErrGate {
		t.Error(h, n, e)
	}
	if n := gate.Wants(g, 1); n != 8 {
		t.Error(n)
	}
	g, e := gate.Reserve(g, 8)
	if g != (gate.Gate{Until: 8}) || e != api.OK {
		t.Error(g, e)
	}
	if h, n, e := gate.Use(g); h != (gate.Gate{Next: 1, Until: 8}) || n != 0 || e != api.OK {
		t.Error(h, n, e)
	}
}

// TestRight: P14.1, of all Gates around the edges; those that aren't have answers of their own.
func TestRight(t *testing.T) {
	for _, g := range gates() {
		if gate.Right(g) != mayBe(g) {
			t.Fatalf("%v: %v", g, gate.Right(g))
		}
		if mayBe(g) {
			continue
		}
		for _, n := range []int{math.MinInt, -1, 0, 1, 8, 64, math.MaxInt} {
			h, e := gate.Reserve(g, n)
			if gate.Wants(g, n) != 0 || h != (gate.Gate{}) || e != api.ErrArg {
				t.Fatalf("%v, %d: %d, %v %d", g, n, gate.Wants(g, n), h, e)
			}
		}
		h, e := gate.Reserve(g, g.Until)
		u, n, f := gate.Use(g)
		if h != (gate.Gate{}) || e != api.ErrArg || u != (gate.Gate{}) || n != 0 || f != api.ErrArg {
			t.Fatalf("%v: %v %d, %v %d %d", g, h, e, u, n, f)
		}
		if gate.Left(g) != 0 || gate.Turn(g) != gate.New(0) {
			t.Fatalf("%v: %d, %v", g, gate.Left(g), gate.Turn(g))
		}
	}
}

// TestUseLeftTurn: P14.1, of all Gates that are Right.
func TestUseLeftTurn(t *testing.T) {
	for _, g := range gates() {
		if !mayBe(g) {
			continue
		}
		want, number, errno := gate.Gate{Epoch: g.Epoch, Next: g.Next + 1, Until: g.Until}, g.Next, api.OK
		if g.Next == g.Until {
			want, number, errno = gate.Gate{}, 0, api.ErrGate
		}
		if g.Next == 64 {
			errno = api.ErrEnd
		}
		if h, n, e := gate.Use(g); h != want || n != number || e != errno {
			t.Fatalf("%v is used: %v %d %d", g, h, n, e)
		}
		if n := gate.Left(g); n != 64-g.Next {
			t.Fatalf("%v: %d are left", g, n)
		}
		next := gate.Gate{Epoch: g.Epoch + 1}
		if g.Epoch == math.MaxInt {
			next = gate.Gate{}
		}
		if h := gate.Turn(g); h != next {
			t.Fatalf("behind %v: %v", g, h)
		}
	}
}

// wanted is Wants, by the chapter's words: the first multiple of 8 that will do.
func wanted(g gate.Gate, n int) int {
	for until := 0; until < 64; until += 8 {
		if until-g.Next >= max(n, 0) && until >= g.Until {
			return until
		}
	}
	return 64
}

// TestWants: P14.1, at all edges of blocks; also where a sum would go round.
func TestWants(t *testing.T) {
	counts := []int{math.MinInt, math.MinInt + 1, -65, 128, 1 << 32, math.MaxInt - 64, math.MaxInt - 7, math.MaxInt - 1, math.MaxInt}
	for n := -9; n <= 73; n++ {
		counts = append(counts, n)
	}
	for until := 0; until <= 64; until += 8 {
		for next := 0; next <= until; next++ {
			g := gate.Gate{Epoch: 3, Next: next, Until: until}
			for _, n := range counts {
				if w := gate.Wants(g, n); w != wanted(g, n) {
					t.Errorf("%v, %d: %d, not %d", g, n, w, wanted(g, n))
				}
				if h, e := gate.Reserve(g, gate.Wants(g, n)); h.Until != wanted(g, n) || e != api.OK {
					t.Errorf("%v, %d can't be reserved: %v %d", g, n, h, e)
				}
			}
		}
	}
	for _, c := range []struct{ next, until, n, want int }{
		{0, 0, 0, 0}, {0, 0, 1, 8}, {0, 0, 8, 8}, {0, 0, 9, 16}, {7, 8, 1, 8}, {7, 8, 2, 16}, {8, 8, 0, 8}, {8, 8, 1, 16},
		{3, 24, 1, 24}, {5, 8, 8, 16}, {60, 64, 4, 64}, {60, 64, 5, 64}, {64, 64, 1, 64}, {0, 0, 65, 64}, {3, 8, -7, 8},
	} {
		if w := gate.Wants(gate.Gate{Next: c.next, Until: c.until}, c.n); w != c.want {
			t.Errorf("%v: %d", c, w)
		}
	}
}

// TestReserve: P14.1; only up to a multiple of 8, and never less than there are.
func TestReserve(t *testing.T) {
	ends := []int{math.MinInt, -1 << 32, 1 << 32, 1<<32 + 8, math.MaxInt - 7, math.MaxInt}
	for i := -17; i <= 81; i++ {
		ends = append(ends, i)
	}
	for until := 0; until <= 64; until += 8 {
		for next := 0; next <= until; next++ {
			g := gate.Gate{Epoch: 5, Next: next, Until: until}
			for _, end := range ends {
				want, errno := gate.Gate{}, api.ErrArg
				if end >= until && end <= 64 && end%8 == 0 {
					want, errno = gate.Gate{Epoch: 5, Next: next, Until: end}, api.OK
				}
				if h, e := gate.Reserve(g, end); h != want || e != errno {
					t.Errorf("%v, up to %d: %v %d, not %v %d", g, end, h, e, want, errno)
				}
			}
		}
	}
}

// place is a number of an epoch.
type place struct{ epoch, number int }

// step does one call with a Gate, picked by two bytes, and keeps it as it was where the call tells an error; it tells the number that was used, or -1.
func step(g gate.Gate, which, how byte, reserved map[int]int) (gate.Gate, int) {
	switch which % 16 {
	case 0, 1, 2:
		if h, e := gate.Reserve(g, gate.Wants(g, int(how%12)-1)); e == api.OK {
			reserved[h.Epoch] = h.Until
			g = h
		}
	case 3:
		if h, e := gate.Reserve(g, int(how%96)-8); e == api.OK {
			reserved[h.Epoch] = h.Until
			g = h
		}
	case 4:
		if how < 20 {
			g = gate.Turn(g)
		}
	default:
		if h, n, e := gate.Use(g); e == api.OK {
			return h, n
		}
	}
	return g, -1
}

// TestNoNumberTwice: P14.2, in long rows of calls.
func TestNoNumberTwice(t *testing.T) {
	for seed := range 50 {
		g := gate.New(seed % 3)
		used, reserved := map[place]int{}, map[int]int{}
		pick := probe.Bytes(8000, seed)
		for i := 0; i < len(pick); i += 2 {
			h, n := step(g, pick[i], pick[i+1], reserved)
			at := place{g.Epoch, n}
			if n >= 0 {
				used[at]++
			}
			if used[at] > 1 || n >= reserved[g.Epoch] && n >= 0 || n > 63 || !gate.Right(h) {
				t.Fatalf("seed %d: %v, %d is used, up to %d are reserved", seed, g, n, reserved[g.Epoch])
			}
			g = h
		}
		if len(used) < 500 || g.Epoch < 5 {
			t.Errorf("seed %d: only %d numbers, up to epoch %d", seed, len(used), g.Epoch)
		}
	}
}

// TestAllNumbersOfAKey: P14.2; in order, each once, and then no more.
func TestAllNumbersOfAKey(t *testing.T) {
	g := gate.New(1)
	for want := range 64 {
		if want%8 == 0 {
			if _, _, e := gate.Use(g); e != api.ErrGate {
				t.Errorf("%d: %d", want, e)
			}
			g, _ = gate.Reserve(g, gate.Wants(g, 1))
		}
		h, n, e := gate.Use(g)
		if n != want || e != api.OK || gate.Left(h) != 63-want {
			t.Errorf("%d: %d %d, %d are left", want, n, e, gate.Left(h))
		}
		g = h
	}
	for range 3 {
		if h, n, e := gate.Use(g); h != (gate.Gate{}) || n != 0 || e != api.ErrEnd {
			t.Errorf("%v %d %d", h, n, e)
		}
		if h, e := gate.Reserve(g, gate.Wants(g, 8)); h != g || e != api.OK {
			t.Errorf("%v %d", h, e)
		}
	}
}
