package bind

import (
	"math"
	"math/rand"
	"slices"
	"testing"

	"rentroll/api"
	"rentroll/pool"
)

// What follows is the document's words on a table taken by their letter, as a measure that shares nothing with the package (of the pool it asks package pool).

// plainBlocks is the ports of each block, one by one.
var plainBlocks = [6][8]int{
	{1024, 1025, 1026, 1027, 1028, 1029, 1030, 1031},
	{1032, 1033, 1034, 1035, 1036, 1037, 1038, 1039},
	{1040, 1041, 1042, 1043, 1044, 1045, 1046, 1047},
	{1048, 1049, 1050, 1051, 1052, 1053, 1054, 1055},
	{1056, 1057, 1058, 1059, 1060, 1061, 1062, 1063},
	{1064, 1065, 1066, 1067, 1068, 1069, 1070, 1071},
}

func plainBlock(port int) (int, int, bool) {
	for k, ports := range plainBlocks {
		if i := slices.Index(ports[:], port); i >= 0 {
			return k, i, true
		}
	}
	return 0, 0, false
}

func plainIsMap(t api.Table, m api.Map) bool {
	if m.Proto != 1 && m.Proto != 6 && m.Proto != 17 {
		return false
	}
	if m.S < 0 || m.S > 7 || m.In < 0 || m.In > 65535 || m.A < 0 || m.A > 2 {
		return false
	}
	if t.Home[m.S]-1 != m.A {
		return false
	}
	k, _, ok := plainBlock(m.Port)
	return ok && t.Pool.Owner[m.A][k]-1 == m.S
}

func plainNoTwo(maps []api.Map) bool {
	for i := range maps {
		for j := range maps {
			x, y := maps[i], maps[j]
			if i != j && x.Proto == y.Proto && (x.A == y.A && x.Port == y.Port || x.S == y.S && x.In == y.In) {
				return false
			}
		}
	}
	return true
}

func plainLiesIn(maps []api.Map, a, block int) bool {
	return slices.ContainsFunc(maps, func(m api.Map) bool {
		return m.A == a && slices.Contains(plainBlocks[block][:], m.Port)
	})
}

func plainCount(t api.Table, s int) (blocks, maps int) {
	for a := 0; a < 3; a++ {
		for b := 0; b < 6; b++ {
			if t.Pool.Owner[a][b] == s+1 {
				blocks++
			}
		}
	}
	for _, m := range t.Maps {
		if m.S == s {
			maps++
		}
	}
	return blocks, maps
}

func plainGood(t api.Table) bool {
	if !pool.Good(t.Pool) {
		return false
	}
	for _, m := range t.Maps {
		if !plainIsMap(t, m) {
			return false
		}
	}
	if !plainNoTwo(t.Maps) {
		return false
	}
	for a := 0; a < 3; a++ {
		for b := 0; b < 6; b++ {
			if (t.Pool.Owner[a][b] != 0) != plainLiesIn(t.Maps, a, b) {
				return false
			}
		}
	}
	for s := 0; s < 8; s++ {
		blocks, maps := plainCount(t, s)
		if blocks > 2 || maps > 12 || (t.Home[s] != 0) != (blocks > 0) {
			return false
		}
	}
	return true
}

func plainFirst(t api.Table, is func(m api.Map) bool) (api.Map, bool) {
	i := slices.IndexFunc(t.Maps, is)
	if i < 0 {
		return api.Map{}, false
	}
	return t.Maps[i], true
}

func plainFind(t api.Table, proto, s, in int) (api.Map, bool) {
	return plainFirst(t, func(m api.Map) bool { return m.Proto == proto && m.S == s && m.In == in })
}

func plainBack(t api.Table, proto, a, port int) (api.Map, bool) {
	return plainFirst(t, func(m api.Map) bool { return m.Proto == proto && m.A == a && m.Port == port })
}

func plainOpen(t api.Table, proto, s, in, draw int) (api.Table, api.Map, bool, api.Errno) {
	if !plainGood(t) || proto != 1 && proto != 6 && proto != 17 || s < 0 || s > 7 || in < 0 || in > 65535 {
		return t, api.Map{}, false, api.ErrRange
	}
	if m, ok := plainFind(t, proto, s, in); ok {
		return t, m, false, api.OK
	}
	blocks, maps := plainCount(t, s)
	if maps >= 12 {
		return t, api.Map{}, false, api.ErrFull
	}
	for port := 1024; port < 1072; port++ {
		for a := 0; a < 3; a++ {
			k, _, _ := plainBlock(port)
			if _, there := plainBack(t, proto, a, port); there || t.Pool.Owner[a][k] != s+1 {
				continue
			}
			m := api.Map{Proto: proto, S: s, In: in, A: a, Port: port}
			t.Maps = append(slices.Clone(t.Maps), m)
			return t, m, false, api.OK
		}
	}
	if blocks >= 2 {
		return t, api.Map{}, false, api.ErrFull
	}
	a := t.Home[s] - 1
	if a < 0 {
		var e api.Errno
		if a, e = pool.Pick(t.Pool, draw); e != api.OK {
			return t, api.Map{}, false, e
		}
	}
	p, k, e := pool.Take(t.Pool, s, a, draw)
	if e != api.OK {
		return t, api.Map{}, false, e
	}
	m := api.Map{Proto: proto, S: s, In: in, A: a, Port: plainBlocks[k][0]}
	t.Pool, t.Home[s], t.Maps = p, a+1, append(slices.Clone(t.Maps), m)
	return t, m, true, api.OK
}

func plainClose(t api.Table, m api.Map) (api.Table, bool, api.Errno) {
	if !plainGood(t) {
		return t, false, api.ErrRange
	}
	i := slices.Index(t.Maps, m)
	if i < 0 {
		return t, false, api.ErrNone
	}
	t.Maps = slices.Delete(slices.Clone(t.Maps), i, i+1)
	k, _, _ := plainBlock(m.Port)
	given := !plainLiesIn(t.Maps, m.A, k)
	if given {
		t.Pool.Owner[m.A][k] = 0
	}
	if blocks, _ := plainCount(t, m.S); blocks == 0 {
		t.Home[m.S] = 0
	}
	return t, given, api.OK
}

var protocols = []int{api.Ping, api.Tcp, api.Udp}

func anyDraw(r *rand.Rand) int {
	if r.Intn(2) == 0 {
		return r.Intn(41) - 20
	}
	return int(r.Uint64()) >> r.Intn(64)
}

// anyNumber is mostly below n, else one of those that something might stumble over.
func anyNumber(r *rand.Rand, n int) int {
	if r.Intn(12) == 0 {
		return []int{-1, n, -n, n + 1, 65535, 65536, 1023, 1072, math.MinInt, math.MaxInt}[r.Intn(10)]
	}
	return r.Intn(n)
}

// anyTable is one that was opened and closed upon for a while, by subscribers of whom few are busy.
func anyTable(r *rand.Rand) api.Table {
	var t api.Table
	busy := 1 + r.Intn(8)
	lean := r.Intn(3)
	for range r.Intn(120) {
		if len(t.Maps) > 0 && r.Intn(5) == 0 {
			t, _, _ = plainClose(t, t.Maps[r.Intn(len(t.Maps))])
			continue
		}
		proto := protocols[lean]
		if r.Intn(4) == 0 {
			proto = protocols[r.Intn(3)]
		}
		t, _, _, _ = plainOpen(t, proto, r.Intn(busy), r.Intn(30), anyDraw(r))
	}
	for a := range t.Pool.Drained {
		t.Pool.Drained[a] = r.Intn(4) == 0
	}
	return t
}

// spoilt has one number of a table another one; seldom it stays good.
func spoilt(r *rand.Rand, t api.Table) api.Table {
	t.Maps = slices.Clone(t.Maps)
	switch {
	case r.Intn(4) == 0:
		t.Home[r.Intn(8)] = anyNumber(r, 4)
	case r.Intn(3) == 0:
		t.Pool.Owner[r.Intn(3)][r.Intn(6)] = anyNumber(r, 9)
	case len(t.Maps) == 0 || r.Intn(6) == 0:
		t.Maps = append(t.Maps, api.Map{Proto: protocols[r.Intn(3)], S: r.Intn(8), In: r.Intn(30), A: r.Intn(3), Port: 1024 + r.Intn(48)})
	case r.Intn(6) == 0:
		t.Maps = append(t.Maps, t.Maps[r.Intn(len(t.Maps))])
	default:
		m := &t.Maps[r.Intn(len(t.Maps))]
		number := []*int{&m.Proto, &m.S, &m.In, &m.A, &m.Port}[r.Intn(5)]
		*number += []int{1, -1, 8, anyNumber(r, 9)}[r.Intn(4)]
	}
	return t
}

// anyMap is one of a table's, or like one.
func anyMap(r *rand.Rand, t api.Table) api.Map {
	if len(t.Maps) > 0 && r.Intn(3) > 0 {
		return t.Maps[r.Intn(len(t.Maps))]
	}
	return api.Map{Proto: protocols[r.Intn(3)], S: anyNumber(r, 8), In: anyNumber(r, 30), A: anyNumber(r, 3), Port: 1024 + anyNumber(r, 48)}
}

func holdsFind(t *testing.T, x api.Table, proto, s, in, a, port int) {
	t.Helper()
	got, ok := Find(x, proto, s, in)
	if want, is := plainFind(x, proto, s, in); got != want || ok != is {
		t.Fatalf("Find(%v, %d, %d, %d): %v, %v; want %v, %v", x, proto, s, in, got, ok, want, is)
	}
	got, ok = Back(x, proto, a, port)
	if want, is := plainBack(x, proto, a, port); got != want || ok != is {
		t.Fatalf("Back(%v, %d, %d, %d): %v, %v; want %v, %v", x, proto, a, port, got, ok, want, is)
	}
}

func holdsOpen(t *testing.T, x api.Table, proto, s, in, draw int) {
	t.Helper()
	x, kept := guard(x)
	got, gotM, took, e := Open(x, proto, s, in, draw)
	want, wantM, wantTook, wantE := plainOpen(x, proto, s, in, draw)
	if !same(got, want) || gotM != wantM || took != wantTook || e != wantE || !kept() {
		t.Fatalf("Open(%v, %d, %d, %d, %d): %v, %v, %v, %d; want %v, %v, %v, %d", x, proto, s, in, draw, got, gotM, took, e, want, wantM, wantTook, wantE)
	}
	if e == api.OK && !plainGood(got) {
		t.Fatalf("Open(%v, %d, %d, %d, %d): %v is not good", x, proto, s, in, draw, got)
	}
}

func holdsClose(t *testing.T, x api.Table, m api.Map) {
	t.Helper()
	x, kept := guard(x)
	got, given, e := Close(x, m)
	want, wantGiven, wantE := plainClose(x, m)
	if !same(got, want) || given != wantGiven || e != wantE || !kept() {
		t.Fatalf("Close(%v, %v): %v, %v, %d; want %v, %v, %d", x, m, got, given, e, want, wantGiven, wantE)
	}
	if e == api.OK && !plainGood(got) {
		t.Fatalf("Close(%v, %v): %v is not good", x, m, got)
	}
}

// TestAnyTable holds every call against the measure, at tables and numbers of all kinds.
func TestAnyTable(t *testing.T) {
	r := rand.New(rand.NewSource(5))
	good := 0
	for range 3000 {
		x := anyTable(r)
		if r.Intn(2) == 0 {
			x = spoilt(r, x)
		}
		if Good(x) != plainGood(x) {
			t.Fatalf("Good(%v): %v", x, Good(x))
		}
		if Good(x) {
			good++
		}
		for range 6 {
			proto := protocols[r.Intn(3)]
			if r.Intn(20) == 0 {
				proto = anyNumber(r, 20)
			}
			s, in := anyNumber(r, 8), anyNumber(r, 30)
			holdsFind(t, x, proto, s, in, anyNumber(r, 3), 1024+anyNumber(r, 48))
			holdsOpen(t, x, proto, s, in, anyDraw(r))
			holdsClose(t, x, anyMap(r, x))
		}
	}
	if good < 1000 || good > 2500 {
		t.Errorf("%d tables are good: too few of one kind", good)
	}
}

func TestAnyPort(t *testing.T) {
	for port := -100; port < 70000; port++ {
		k, i, ok := Block(port)
		if wantK, wantI, wantOk := plainBlock(port); k != wantK || i != wantI || ok != wantOk {
			t.Fatalf("Block(%d): %d, %d, %v; want %d, %d, %v", port, k, i, ok, wantK, wantI, wantOk)
		}
	}
}

// TestOpenedAndClosed opens at random until all the subscribers are full or refused, and closes it all: nothing is left.
func TestOpenedAndClosed(t *testing.T) {
	r := rand.New(rand.NewSource(6))
	for range 60 {
		var x api.Table
		blocks := 0
		for range 400 {
			next, _, took, e := Open(x, protocols[r.Intn(3)], r.Intn(8), r.Intn(20), anyDraw(r))
			if e != api.OK && e != api.ErrFull {
				t.Fatalf("Open: %d", e)
			}
			if took {
				blocks++
			}
			x = next
		}
		if !Good(x) || len(x.Maps) != 96 {
			t.Fatalf("Good %v, %d maps", Good(x), len(x.Maps))
		}
		r.Shuffle(len(x.Maps), func(i, j int) { x.Maps[i], x.Maps[j] = x.Maps[j], x.Maps[i] })
		for len(x.Maps) > 0 {
			next, given, e := Close(x, x.Maps[0])
			if e != api.OK {
				t.Fatalf("Close(%v, %v): %d", x, x.Maps[0], e)
			}
			if given {
				blocks--
			}
			x = next
		}
		if !same(x, api.Table{}) || blocks != 0 {
			t.Fatalf("all is closed: %v, %d blocks more taken than given back", x, blocks)
		}
	}
}
