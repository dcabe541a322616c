package pool

import (
	"math"
	"testing"

	"rentroll/api"
)

// Numbers that are no addresses, subscribers, blocks, owners.
var (
	noAddresses   = []int{-1, 3, 4, 8, -3, math.MinInt, math.MaxInt}
	noSubscribers = []int{-1, 8, 9, -8, math.MinInt, math.MaxInt}
	noBlocks      = []int{-1, 6, 7, -6, math.MinInt, math.MaxInt}
	noOwners      = []int{-1, 9, 10, -8, math.MinInt, math.MaxInt}
)

// some has blocks that are let at address 0, one left at address 1, all let at address 2; none is drained.
func some() api.Pool {
	return api.Pool{Owner: [3][6]int{{0, 3, 0, 8, 1, 0}, {1, 2, 3, 0, 5, 6}, {8, 7, 6, 5, 4, 3}}}
}

// bad is a pool with an owner that is none.
func bad(p api.Pool) api.Pool {
	p.Owner[2][5] = 9
	return p
}

func drained(p api.Pool, addresses ...int) api.Pool {
	for _, a := range addresses {
		p.Drained[a] = true
	}
	return p
}

func takes(t *testing.T, p api.Pool, s, a, draw, block int) api.Pool {
	t.Helper()
	want := p
	want.Owner[a][block] = s + 1
	got, b, e := Take(p, s, a, draw)
	if got != want || b != block || e != api.OK {
		t.Fatalf("Take(%v, %d, %d, %d): %v, %d, %d; want %v, %d", p, s, a, draw, got, b, e, want, block)
	}
	return got
}

func takesNot(t *testing.T, p api.Pool, s, a, draw int, want api.Errno) {
	t.Helper()
	if got, b, e := Take(p, s, a, draw); got != p || b != 0 || e != want {
		t.Errorf("Take(%v, %d, %d, %d): %v, %d, %d; want it as it was, 0, %d", p, s, a, draw, got, b, e, want)
	}
}

func gives(t *testing.T, p api.Pool, s, a, block int) api.Pool {
	t.Helper()
	want := p
	want.Owner[a][block] = 0
	got, e := Give(p, s, a, block)
	if got != want || e != api.OK {
		t.Fatalf("Give(%v, %d, %d, %d): %v, %d; want %v", p, s, a, block, got, e, want)
	}
	return got
}

func givesNot(t *testing.T, p api.Pool, s, a, block int, want api.Errno) {
	t.Helper()
	if got, e := Give(p, s, a, block); got != p || e != want {
		t.Errorf("Give(%v, %d, %d, %d): %v, %d; want it as it was, %d", p, s, a, block, got, e, want)
	}
}

func picks(t *testing.T, p api.Pool, draw, address int) {
	t.Helper()
	if a, e := Pick(p, draw); a != address || e != api.OK {
		t.Errorf("Pick(%v, %d): %d, %d; want %d", p, draw, a, e, address)
	}
}

func picksNot(t *testing.T, p api.Pool, draw int, want api.Errno) {
	t.Helper()
	if a, e := Pick(p, draw); a != 0 || e != want {
		t.Errorf("Pick(%v, %d): %d, %d; want 0, %d", p, draw, a, e, want)
	}
}

// P4.1

func TestGood(t *testing.T) {
	for _, p := range []api.Pool{{}, some(), drained(some(), 0, 1, 2)} {
		if !Good(p) {
			t.Errorf("%v is not good", p)
		}
	}
	for a := range 3 {
		for b := range 6 {
			for owner := range 9 {
				p := some()
				p.Owner[a][b] = owner
				if !Good(p) {
					t.Errorf("owner %d of block %d of %d is not good", owner, b, a)
				}
			}
			for _, owner := range noOwners {
				p := some()
				p.Owner[a][b] = owner
				if Good(p) || Good(drained(p, a)) {
					t.Errorf("owner %d of block %d of %d is good", owner, b, a)
				}
			}
		}
	}
}

func TestLeft(t *testing.T) {
	for a, want := range []int{3, 1, 0} {
		if n := Left(some(), a); n != want {
			t.Errorf("Left of %d: %d; want %d", a, n, want)
		}
		if n := Left(drained(some(), a), a); n != want {
			t.Errorf("Left of %d, drained: %d; want %d", a, n, want)
		}
		if n := Left(api.Pool{}, a); n != 6 {
			t.Errorf("Left of %d, of nobody: %d", a, n)
		}
	}
	for _, a := range noAddresses {
		if n := Left(api.Pool{}, a); n != 0 {
			t.Errorf("Left of %d: %d", a, n)
		}
	}
}

// A pool that is not good is no error here: what nobody has is counted.
func TestLeftOfBad(t *testing.T) {
	p := bad(some())
	p.Owner[0][0] = -1
	for a, want := range []int{2, 1, 0} {
		if n := Left(p, a); n != want {
			t.Errorf("Left of %d: %d; want %d", a, n, want)
		}
	}
}

func TestAsADrawHasIt(t *testing.T) {
	ofSix := map[int]int{
		0: 0, 1: 1, 5: 5, 6: 0, 7: 1, 600: 0, 605: 5,
		-1: 5, -2: 4, -5: 1, -6: 0, -7: 5, -600: 0, -601: 5,
		math.MaxInt: 1, math.MinInt: 4,
	}
	for draw, block := range ofSix {
		takes(t, api.Pool{}, 0, 1, draw, block)
	}
	ofThree := map[int]int{0: 0, 1: 1, 2: 2, 3: 0, 4: 1, -1: 2, -2: 1, -3: 0, -4: 2, math.MaxInt: 1, math.MinInt: 1}
	for draw, at := range ofThree {
		picks(t, api.Pool{}, draw, at)
		takes(t, some(), 4, 0, draw, []int{0, 2, 5}[at])
	}
	for _, draw := range []int{0, 1, 2, -1, -7, math.MaxInt, math.MinInt} {
		takes(t, some(), 4, 1, draw, 3)
	}
}

// P4.2

func TestPick(t *testing.T) {
	p := some()
	for draw, address := range map[int]int{0: 0, 1: 1, 2: 0, 3: 1, -1: 1, -2: 0, math.MaxInt: 1, math.MinInt: 0} {
		picks(t, p, draw, address)
	}
	for _, draw := range []int{0, 1, 2, -1, math.MaxInt, math.MinInt} {
		picks(t, drained(p, 0), draw, 1)
		picks(t, drained(p, 1, 2), draw, 0)
		picks(t, drained(api.Pool{}, 0, 1), draw, 2)
	}
	picks(t, drained(api.Pool{}, 1), 0, 0)
	picks(t, drained(api.Pool{}, 1), 1, 2)
	picks(t, drained(api.Pool{}, 1), -1, 2)
}

func TestPickDown(t *testing.T) {
	full := some()
	full.Owner[0] = full.Owner[2]
	full.Owner[1] = full.Owner[2]
	for _, draw := range []int{0, 1, -1, 9, math.MaxInt, math.MinInt} {
		picksNot(t, full, draw, api.ErrDown)
		picksNot(t, drained(full, 0, 1, 2), draw, api.ErrDown)
		// Blocks are left, but of drained addresses.
		picksNot(t, drained(api.Pool{}, 0, 1, 2), draw, api.ErrDown)
		picksNot(t, drained(some(), 0, 1), draw, api.ErrDown)
	}
}

func TestPickOfBad(t *testing.T) {
	for _, draw := range []int{0, 1, -1, math.MaxInt, math.MinInt} {
		picksNot(t, bad(some()), draw, api.ErrRange)
		// And there is none.
		picksNot(t, bad(drained(some(), 0, 1, 2)), draw, api.ErrRange)
	}
}

// P4.3

func TestTake(t *testing.T) {
	for a := range 3 {
		for s := range 8 {
			p := api.Pool{}
			for _, block := range []int{5, 4, 3, 2, 1, 0} {
				p = takes(t, p, s, a, -1, block)
			}
			takesNot(t, p, s, a, 0, api.ErrDown)
			if Left(p, a) != 0 || !Good(p) {
				t.Errorf("%v: Left of %d: %d", p, a, Left(p, a))
			}
		}
	}
	// The neighbour's being drained is nothing to an address.
	takes(t, drained(some(), 1, 2), 0, 0, 1, 2)
}

func TestTakeTheLast(t *testing.T) {
	p := takes(t, some(), 7, 1, 100, 3)
	if Left(p, 1) != 0 {
		t.Errorf("Left: %d", Left(p, 1))
	}
	takesNot(t, p, 7, 1, 100, api.ErrDown)
	picks(t, p, 1, 0)
}

func TestTakeErrors(t *testing.T) {
	p := some()
	takesNot(t, bad(p), 1, 0, 0, api.ErrRange)
	for _, a := range noAddresses {
		takesNot(t, p, 1, a, 0, api.ErrNone)
	}
	for _, s := range noSubscribers {
		takesNot(t, p, s, 0, 0, api.ErrNone)
	}
	takesNot(t, drained(p, 0), 1, 0, 0, api.ErrDrained)
	takesNot(t, p, 1, 2, 0, api.ErrDown)
}

func TestTakeTwoWrongs(t *testing.T) {
	p := some()
	for _, a := range noAddresses {
		takesNot(t, bad(p), 1, a, 0, api.ErrRange)
		takesNot(t, drained(p, 0, 1, 2), 1, a, 0, api.ErrNone)
		for _, s := range noSubscribers {
			takesNot(t, p, s, a, 0, api.ErrNone)
		}
	}
	for _, s := range noSubscribers {
		takesNot(t, bad(p), s, 0, 0, api.ErrRange)
		takesNot(t, drained(p, 0), s, 0, 0, api.ErrNone)
		takesNot(t, p, s, 2, 0, api.ErrNone)
	}
	takesNot(t, bad(drained(p, 0)), 1, 0, 0, api.ErrRange)
	takesNot(t, bad(p), 1, 2, 0, api.ErrRange)
	takesNot(t, drained(p, 2), 1, 2, 0, api.ErrDrained)
}

func TestGive(t *testing.T) {
	for a, blocks := range some().Owner {
		for b, owner := range blocks {
			if owner == 0 {
				continue
			}
			p := gives(t, some(), owner-1, a, b)
			givesNot(t, p, owner-1, a, b, api.ErrNone)
			// Of a drained address blocks are given back, too.
			gives(t, drained(some(), a), owner-1, a, b)
		}
	}
}

func TestGiveErrors(t *testing.T) {
	p := some()
	givesNot(t, bad(p), 2, 0, 1, api.ErrRange)
	for _, a := range noAddresses {
		givesNot(t, p, 2, a, 1, api.ErrNone)
	}
	for _, b := range noBlocks {
		givesNot(t, p, 2, 0, b, api.ErrNone)
	}
	for a, blocks := range p.Owner {
		for b, owner := range blocks {
			for s := range 8 {
				if owner != s+1 {
					givesNot(t, p, s, a, b, api.ErrNone)
				}
			}
			// What is nobody's is not that of a subscriber -1 either.
			for _, s := range noSubscribers {
				givesNot(t, p, s, a, b, api.ErrNone)
			}
		}
	}
}

func TestGiveTwoWrongs(t *testing.T) {
	p := bad(some())
	for _, n := range []int{-1, 9, math.MinInt, math.MaxInt} {
		givesNot(t, p, 2, n, 1, api.ErrRange)
		givesNot(t, p, 2, 0, n, api.ErrRange)
		givesNot(t, p, n, 0, 1, api.ErrRange)
		givesNot(t, some(), n, n, n, api.ErrNone)
	}
	givesNot(t, p, 3, 0, 1, api.ErrRange)
	givesNot(t, p, 8, 2, 5, api.ErrRange)
}

// What is handed in stays what it was, whatever is answered.
func TestHandedIn(t *testing.T) {
	p := drained(some(), 2)
	Take(p, 0, 0, 0)
	Give(p, 2, 0, 1)
	Drain(p, 0)
	Undrain(p, 2)
	if p != drained(some(), 2) {
		t.Errorf("it is %v now", p)
	}
}

// P4.4

func TestDrain(t *testing.T) {
	for _, p := range []api.Pool{{}, some(), bad(some())} {
		for a := range 3 {
			d, e := Drain(p, a)
			if d != drained(p, a) || e != api.OK {
				t.Fatalf("Drain(%v, %d): %v, %d", p, a, d, e)
			}
			if again, e := Drain(d, a); again != d || e != api.ErrTwice {
				t.Errorf("Drain(%v, %d): %v, %d", d, a, again, e)
			}
			u, e := Undrain(d, a)
			if u != p || e != api.OK {
				t.Errorf("Undrain(%v, %d): %v, %d", d, a, u, e)
			}
			if again, e := Undrain(u, a); again != p || e != api.ErrTwice {
				t.Errorf("Undrain(%v, %d): %v, %d", u, a, again, e)
			}
		}
	}
}

func TestDrainOthersStay(t *testing.T) {
	p := drained(some(), 0, 2)
	if d, e := Drain(p, 1); d != drained(some(), 0, 1, 2) || e != api.OK {
		t.Errorf("Drain: %v, %d", d, e)
	}
	if u, e := Undrain(p, 2); u != drained(some(), 0) || e != api.OK {
		t.Errorf("Undrain: %v, %d", u, e)
	}
}

func TestDrainOfNone(t *testing.T) {
	for _, p := range []api.Pool{{}, some(), drained(some(), 0, 1, 2), bad(some())} {
		for _, a := range noAddresses {
			if d, e := Drain(p, a); d != p || e != api.ErrNone {
				t.Errorf("Drain(%v, %d): %v, %d", p, a, d, e)
			}
			if u, e := Undrain(p, a); u != p || e != api.ErrNone {
				t.Errorf("Undrain(%v, %d): %v, %d", p, a, u, e)
			}
		}
	}
}

func TestEmpty(t *testing.T) {
	for a := range 3 {
		if Empty(api.Pool{}, a) || Empty(drained(api.Pool{}, (a+1)%3), a) {
			t.Errorf("%d is empty, and not drained", a)
		}
		if !Empty(drained(api.Pool{}, a), a) {
			t.Errorf("%d is not empty", a)
		}
		for b := range 6 {
			for _, owner := range append([]int{1, 8}, noOwners...) {
				p := drained(api.Pool{}, a)
				p.Owner[a][b] = owner
				if Empty(p, a) {
					t.Errorf("%d is empty, with owner %d of block %d", a, owner, b)
				}
			}
		}
		// What the others have is nothing to it.
		p := drained(bad(some()), 0, 1, 2)
		p.Owner[a] = [6]int{}
		if !Empty(p, a) {
			t.Errorf("%d is not empty in %v", a, p)
		}
	}
	for _, a := range noAddresses {
		if Empty(drained(api.Pool{}, 0, 1, 2), a) {
			t.Errorf("%d is empty", a)
		}
	}
}

// An address that is drained lets nothing, but is emptied block by block.
func TestDrainToEmpty(t *testing.T) {
	p := takes(t, api.Pool{}, 2, 1, 0, 0)
	p = takes(t, p, 5, 1, 0, 1)
	p, e := Drain(p, 1)
	if e != api.OK || Left(p, 1) != 4 {
		t.Fatalf("Drain: %d, Left %d", e, Left(p, 1))
	}
	takesNot(t, p, 2, 1, 0, api.ErrDrained)
	p = gives(t, p, 2, 1, 0)
	if Empty(p, 1) {
		t.Error("it is empty too soon")
	}
	p = gives(t, p, 5, 1, 1)
	if !Empty(p, 1) {
		t.Error("it is not empty")
	}
	p, e = Undrain(p, 1)
	if e != api.OK || Empty(p, 1) {
		t.Errorf("Undrain: %d", e)
	}
	takes(t, p, 2, 1, 0, 0)
}
