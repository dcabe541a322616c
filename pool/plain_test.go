package pool

import (
	"math"
	"math/rand"
	"testing"

	"rentroll/api"
)

// What follows is the document's words on a pool taken by their letter, as a measure that shares nothing with the package.

func plainGood(p api.Pool) bool {
	for a := 0; a < 3; a++ {
		for b := 0; b < 6; b++ {
			switch p.Owner[a][b] {
			case 0, 1, 2, 3, 4, 5, 6, 7, 8:
			default:
				return false
			}
		}
	}
	return true
}

func plainLeft(p api.Pool, a int) int {
	n := 0
	for b := 0; b < 6 && a >= 0 && a <= 2; b++ {
		if p.Owner[a][b] == 0 {
			n++
		}
	}
	return n
}

// plainDraw is what is left of draw by n: what is n times something less than it, and from 0 to n - 1.
func plainDraw(draw, n int) int {
	for k := 0; k < n; k++ {
		// In two halves, since a draw may lie anywhere.
		if (draw/2%n*2+draw%2-k)%n == 0 {
			return k
		}
	}
	panic("no number is left")
}

func plainPick(p api.Pool, draw int) (int, api.Errno) {
	if !plainGood(p) {
		return 0, api.ErrRange
	}
	n := 0
	for a := 0; a < 3; a++ {
		if !p.Drained[a] && plainLeft(p, a) > 0 {
			n++
		}
	}
	if n == 0 {
		return 0, api.ErrDown
	}
	at := plainDraw(draw, n)
	for a := 0; ; a++ {
		if p.Drained[a] || plainLeft(p, a) == 0 {
			continue
		}
		if at == 0 {
			return a, api.OK
		}
		at--
	}
}

func plainTake(p api.Pool, s, a, draw int) (api.Pool, int, api.Errno) {
	if !plainGood(p) {
		return p, 0, api.ErrRange
	}
	if a < 0 || a > 2 || s < 0 || s > 7 {
		return p, 0, api.ErrNone
	}
	if p.Drained[a] {
		return p, 0, api.ErrDrained
	}
	if plainLeft(p, a) == 0 {
		return p, 0, api.ErrDown
	}
	at := plainDraw(draw, plainLeft(p, a))
	for b := 0; ; b++ {
		if p.Owner[a][b] != 0 {
			continue
		}
		if at == 0 {
			p.Owner[a][b] = s + 1
			return p, b, api.OK
		}
		at--
	}
}

func plainGive(p api.Pool, s, a, block int) (api.Pool, api.Errno) {
	if !plainGood(p) {
		return p, api.ErrRange
	}
	if a < 0 || a > 2 || block < 0 || block > 5 || p.Owner[a][block] == 0 || p.Owner[a][block]-1 != s {
		return p, api.ErrNone
	}
	p.Owner[a][block] = 0
	return p, api.OK
}

func plainDrain(p api.Pool, a int, drained bool) (api.Pool, api.Errno) {
	if a < 0 || a > 2 {
		return p, api.ErrNone
	}
	if p.Drained[a] == drained {
		return p, api.ErrTwice
	}
	p.Drained[a] = drained
	return p, api.OK
}

func plainEmpty(p api.Pool, a int) bool {
	return a >= 0 && a <= 2 && p.Drained[a] && p.Owner[a] == [6]int{}
}

// anyPool is a pool with few blocks left or many, some addresses drained, seldom not good.
func anyPool(r *rand.Rand) api.Pool {
	var p api.Pool
	for a := range p.Owner {
		full := r.Intn(5)
		for b := range p.Owner[a] {
			if r.Intn(4) < full {
				p.Owner[a][b] = 1 + r.Intn(8)
			}
		}
		p.Drained[a] = r.Intn(3) == 0
	}
	if r.Intn(8) == 0 {
		p.Owner[r.Intn(3)][r.Intn(6)] = []int{-1, 9, 10, math.MinInt, math.MaxInt}[r.Intn(5)]
	}
	return p
}

// anyOf is mostly a number below n, else one that is not there.
func anyOf(r *rand.Rand, n int) int {
	if r.Intn(6) == 0 {
		return []int{-1, n, -n, n + 1, math.MinInt, math.MaxInt}[r.Intn(6)]
	}
	return r.Intn(n)
}

func anyDraw(r *rand.Rand) int {
	if r.Intn(2) == 0 {
		return r.Intn(41) - 20
	}
	return int(r.Uint64()) >> r.Intn(64)
}

// TestAnyPool holds every call against the measure, at pools and numbers of all kinds.
func TestAnyPool(t *testing.T) {
	r := rand.New(rand.NewSource(4))
	for range 60000 {
		p := anyPool(r)
		s, a, b, draw := anyOf(r, 8), anyOf(r, 3), anyOf(r, 6), anyDraw(r)
		if Good(p) != plainGood(p) || Left(p, a) != plainLeft(p, a) || Empty(p, a) != plainEmpty(p, a) {
			t.Fatalf("%v, %d: Good %v, Left %d, Empty %v", p, a, Good(p), Left(p, a), Empty(p, a))
		}
		gotA, gotE := Pick(p, draw)
		if wantA, wantE := plainPick(p, draw); gotA != wantA || gotE != wantE {
			t.Fatalf("Pick(%v, %d): %d, %d; want %d, %d", p, draw, gotA, gotE, wantA, wantE)
		}
		gotP, gotB, gotE := Take(p, s, a, draw)
		if wantP, wantB, wantE := plainTake(p, s, a, draw); gotP != wantP || gotB != wantB || gotE != wantE {
			t.Fatalf("Take(%v, %d, %d, %d): %v, %d, %d; want %v, %d, %d", p, s, a, draw, gotP, gotB, gotE, wantP, wantB, wantE)
		}
		gotP, gotE = Give(p, s, a, b)
		if wantP, wantE := plainGive(p, s, a, b); gotP != wantP || gotE != wantE {
			t.Fatalf("Give(%v, %d, %d, %d): %v, %d; want %v, %d", p, s, a, b, gotP, gotE, wantP, wantE)
		}
		gotP, gotE = Drain(p, a)
		if wantP, wantE := plainDrain(p, a, true); gotP != wantP || gotE != wantE {
			t.Fatalf("Drain(%v, %d): %v, %d; want %v, %d", p, a, gotP, gotE, wantP, wantE)
		}
		gotP, gotE = Undrain(p, a)
		if wantP, wantE := plainDrain(p, a, false); gotP != wantP || gotE != wantE {
			t.Fatalf("Undrain(%v, %d): %v, %d; want %v, %d", p, a, gotP, gotE, wantP, wantE)
		}
	}
}

// TestLetAndGivenBack lets a pool out by draws until none is left, and takes it all back: the pool is as it was.
func TestLetAndGivenBack(t *testing.T) {
	r := rand.New(rand.NewSource(5))
	type let struct{ s, a, b int }
	for range 200 {
		var p api.Pool
		var lets []let
		for range 18 {
			s, draw := r.Intn(8), anyDraw(r)
			a, e := Pick(p, draw)
			if e != api.OK {
				t.Fatalf("Pick(%v, %d): %d", p, draw, e)
			}
			q, b, e := Take(p, s, a, draw)
			if e != api.OK || p.Owner[a][b] != 0 || q.Owner[a][b] != s+1 {
				t.Fatalf("Take(%v, %d, %d, %d): %v, %d, %d", p, s, a, draw, q, b, e)
			}
			p, lets = q, append(lets, let{s, a, b})
		}
		if a, e := Pick(p, anyDraw(r)); a != 0 || e != api.ErrDown {
			t.Fatalf("all is let: %d, %d", a, e)
		}
		r.Shuffle(len(lets), func(i, j int) { lets[i], lets[j] = lets[j], lets[i] })
		for _, l := range lets {
			var e api.Errno
			if p, e = Give(p, l.s, l.a, l.b); e != api.OK {
				t.Fatalf("Give of %v: %d", l, e)
			}
		}
		if p != (api.Pool{}) {
			t.Fatalf("all is given back: %v", p)
		}
	}
}
