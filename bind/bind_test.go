package bind

import (
	"math"
	"slices"
	"testing"

	"rentroll/api"
)

// Numbers that are no protocols, subscribers, words, addresses, ports of a block.
var (
	noProtocols   = []int{0, 2, 5, 7, 16, 18, -1, -6, 6 + 1<<32, math.MinInt, math.MaxInt}
	noSubscribers = []int{-1, 8, 9, -8, math.MinInt, math.MaxInt}
	noWords       = []int{-1, 65536, -65536, math.MinInt, math.MaxInt}
	noAddresses   = []int{-1, 3, 4, -3, math.MinInt, math.MaxInt}
	noPorts       = []int{1023, 1072, 0, 8, -1, 1024 + 1<<32, -1024, math.MinInt, math.MaxInt}
)

func mapOf(proto, s, in, a, port int) api.Map {
	return api.Map{Proto: proto, S: s, In: in, A: a, Port: port}
}

// tableOf has these maps, and the blocks and homes that they ask for.
func tableOf(maps ...api.Map) api.Table {
	t := api.Table{Maps: maps}
	for _, m := range maps {
		t.Pool.Owner[m.A][(m.Port-1024)/8] = m.S + 1
		t.Home[m.S] = m.A + 1
	}
	return t
}

// some has three subscribers: 0 with two blocks of address 1, 1 with one of address 0, 7 with the last of address 2.
func some() api.Table {
	return tableOf(
		mapOf(api.Udp, 0, 5, 1, 1032),
		mapOf(api.Tcp, 0, 5, 1, 1032),
		mapOf(api.Ping, 0, 0, 1, 1055),
		mapOf(api.Udp, 1, 5, 0, 1024),
		mapOf(api.Udp, 1, 65535, 0, 1031),
		mapOf(api.Tcp, 7, 5, 2, 1071),
	)
}

// many has n maps of one subscriber's, of the protocols by turns, all of them in one block of address a.
func many(s, a, block, n int) []api.Map {
	var maps []api.Map
	for i := range n {
		proto := []int{api.Udp, api.Tcp, api.Ping}[i%3]
		maps = append(maps, mapOf(proto, s, 100+i, a, 1024+8*block+i/3))
	}
	return maps
}

// filled has a subscriber's block with eight maps of a protocol: none of its ports is left to that.
func filled(proto, s, a, block int) []api.Map {
	var maps []api.Map
	for i := range 8 {
		maps = append(maps, mapOf(proto, s, 200+i, a, 1024+8*block+i))
	}
	return maps
}

func drained(t api.Table, addresses ...int) api.Table {
	for _, a := range addresses {
		t.Pool.Drained[a] = true
	}
	return t
}

// bad is a table that is not good for a home alone.
func bad(t api.Table) api.Table {
	for s, home := range t.Home {
		if home == 0 {
			t.Home[s] = 1
			return t
		}
	}
	panic("all subscribers have a home")
}

func same(x, y api.Table) bool {
	return x.Pool == y.Pool && x.Home == y.Home && slices.Equal(x.Maps, y.Maps)
}

// guard lays a table's maps into a list with spare room, and tells whether all of that is still as it was.
func guard(t api.Table) (api.Table, func() bool) {
	spare := mapOf(-7, -7, -7, -7, -7)
	whole := append(slices.Clone(t.Maps), spare, spare, spare)
	was := slices.Clone(whole)
	t.Maps = whole[:len(t.Maps)]
	return t, func() bool { return slices.Equal(whole, was) }
}

// opens is Open where a map is new and has a port of a block that is its subscriber's already, or, if taken is not -1, of that one.
func opens(t *testing.T, x api.Table, proto, s, in, draw int, m api.Map, taken int) api.Table {
	t.Helper()
	x, kept := guard(x)
	want := x
	if taken >= 0 {
		want.Pool.Owner[m.A][taken] = s + 1
		want.Home[s] = m.A + 1
	}
	want.Maps = append(slices.Clone(x.Maps), m)
	got, gotM, took, e := Open(x, proto, s, in, draw)
	if !same(got, want) || gotM != m || took != (taken >= 0) || e != api.OK {
		t.Fatalf("Open(%v, %d, %d, %d, %d): %v, %v, %v, %d; want %v, %v", x, proto, s, in, draw, got, gotM, took, e, want, m)
	}
	if !kept() {
		t.Errorf("Open(%v, %d, %d, %d, %d) changed the list", x, proto, s, in, draw)
	}
	if !Good(got) {
		t.Errorf("%v is not good", got)
	}
	return got
}

func opensNot(t *testing.T, x api.Table, proto, s, in, draw int, want api.Errno) {
	t.Helper()
	x, kept := guard(x)
	got, m, took, e := Open(x, proto, s, in, draw)
	if !same(got, x) || m != (api.Map{}) || took || e != want {
		t.Errorf("Open(%v, %d, %d, %d, %d): %v, %v, %v, %d; want it as it was, %d", x, proto, s, in, draw, got, m, took, e, want)
	}
	if !kept() {
		t.Errorf("Open(%v, %d, %d, %d, %d) changed the list", x, proto, s, in, draw)
	}
}

func hasAlready(t *testing.T, x api.Table, m api.Map, draw int) {
	t.Helper()
	x, kept := guard(x)
	got, gotM, took, e := Open(x, m.Proto, m.S, m.In, draw)
	if !same(got, x) || gotM != m || took || e != api.OK {
		t.Errorf("Open of %v: %v, %v, %v, %d", m, got, gotM, took, e)
	}
	if !kept() {
		t.Errorf("Open of %v changed the list", m)
	}
}

// closes is Close of a map, with which its block goes, or also its home.
func closes(t *testing.T, x api.Table, m api.Map, block, home bool) api.Table {
	t.Helper()
	x, kept := guard(x)
	want := x
	want.Maps = slices.DeleteFunc(slices.Clone(x.Maps), func(other api.Map) bool { return other == m })
	if block {
		want.Pool.Owner[m.A][(m.Port-1024)/8] = 0
	}
	if home {
		want.Home[m.S] = 0
	}
	got, given, e := Close(x, m)
	if !same(got, want) || given != block || e != api.OK {
		t.Fatalf("Close(%v, %v): %v, %v, %d; want %v, %v", x, m, got, given, e, want, block)
	}
	if !kept() {
		t.Errorf("Close(%v, %v) changed the list", x, m)
	}
	if !Good(got) {
		t.Errorf("%v is not good", got)
	}
	return got
}

func closesNot(t *testing.T, x api.Table, m api.Map, want api.Errno) {
	t.Helper()
	x, kept := guard(x)
	got, given, e := Close(x, m)
	if !same(got, x) || given || e != want {
		t.Errorf("Close(%v, %v): %v, %v, %d; want it as it was, %d", x, m, got, given, e, want)
	}
	if !kept() {
		t.Errorf("Close(%v, %v) changed the list", x, m)
	}
}

func isGood(t *testing.T, x api.Table, want bool, why string) {
	t.Helper()
	if Good(x) != want {
		t.Errorf("%s: Good(%v) is %v", why, x, !want)
	}
}

// P5.1

func TestBlock(t *testing.T) {
	port := 1024
	for block := range 6 {
		for i := range 8 {
			if k, at, ok := Block(port); k != block || at != i || !ok {
				t.Errorf("Block(%d): %d, %d, %v; want %d, %d", port, k, at, ok, block, i)
			}
			port++
		}
	}
	if port != 1072 {
		t.Errorf("the last block ends at %d", port)
	}
	for _, port := range append([]int{1016, 1022, 1073, 1079, 1080, 65535, math.MinInt + 1024, math.MinInt + 1023}, noPorts...) {
		if k, at, ok := Block(port); k != 0 || at != 0 || ok {
			t.Errorf("Block(%d): %d, %d, %v", port, k, at, ok)
		}
	}
}

// P5.2

func TestGood(t *testing.T) {
	isGood(t, api.Table{}, true, "none")
	isGood(t, api.Table{Maps: []api.Map{}}, true, "none")
	isGood(t, drained(api.Table{}, 0, 1, 2), true, "none, all drained")
	isGood(t, some(), true, "some")
	isGood(t, drained(some(), 0, 1, 2), true, "some, all drained")
	for proto := range 20 {
		isGood(t, tableOf(mapOf(proto, 3, 7, 2, 1040)), proto == 1 || proto == 6 || proto == 17, "a protocol")
	}
	for s := range 8 {
		for a := range 3 {
			for port := 1024; port < 1072; port++ {
				isGood(t, tableOf(mapOf(api.Tcp, s, port*5, a, port)), true, "one")
			}
		}
	}
}

func TestGoodPool(t *testing.T) {
	for _, owner := range []int{-1, 9, math.MinInt, math.MaxInt} {
		x := some()
		x.Pool.Owner[2][0] = owner
		isGood(t, x, false, "a pool that is not good")
		x = some()
		x.Pool.Owner[2][5] = owner
		isGood(t, x, false, "a pool that is not good")
	}
}

// Each number of a map, put wrong by itself, at each place of the list.
func TestGoodMap(t *testing.T) {
	n := len(some().Maps)
	for i := range n {
		wrong := func(change func(m *api.Map), why string) {
			t.Helper()
			x := some()
			change(&x.Maps[i])
			isGood(t, x, false, why)
		}
		for _, proto := range noProtocols {
			wrong(func(m *api.Map) { m.Proto = proto }, "no protocol")
		}
		for _, s := range noSubscribers {
			wrong(func(m *api.Map) { m.S = s }, "no subscriber")
		}
		for _, in := range noWords {
			wrong(func(m *api.Map) { m.In = in }, "no word")
		}
		for _, a := range noAddresses {
			wrong(func(m *api.Map) { m.A = a }, "no address")
		}
		for _, port := range noPorts {
			wrong(func(m *api.Map) { m.Port = port }, "no port of a block")
		}
		for a := range 3 {
			if a != some().Maps[i].A {
				wrong(func(m *api.Map) { m.A = a }, "not its home")
			}
		}
		for s := range 8 {
			if s != some().Maps[i].S {
				wrong(func(m *api.Map) { m.S = s }, "another one's block")
			}
		}
	}
}

// A home that is no address does not make one of what a map says.
func TestGoodNoAddress(t *testing.T) {
	for _, a := range noAddresses {
		x := api.Table{Maps: []api.Map{mapOf(api.Udp, 2, 5, a, 1024)}}
		x.Home[2] = a + 1
		isGood(t, x, false, "no address")
		x.Pool.Owner[0][0] = 3
		isGood(t, x, false, "no address")
	}
}

func TestGoodOutOfItsBlocks(t *testing.T) {
	x := tableOf(mapOf(api.Udp, 2, 5, 1, 1024), mapOf(api.Udp, 2, 6, 1, 1032), mapOf(api.Udp, 3, 6, 1, 1040))
	isGood(t, x, true, "two")
	for _, port := range []int{1040, 1047, 1048, 1071} {
		y := x
		y.Maps = append(slices.Clone(x.Maps), mapOf(api.Tcp, 2, 7, 1, port))
		isGood(t, y, false, "a port in a block that is not its subscriber's")
	}
	for _, port := range []int{1024, 1031, 1039} {
		y := x
		y.Maps = append(slices.Clone(x.Maps), mapOf(api.Tcp, 2, 7, 1, port))
		isGood(t, y, true, "a port in its blocks")
	}
}

// Blocks of two addresses cannot both be at home.
func TestGoodTwoHomes(t *testing.T) {
	for _, home := range []int{0, 1, 2, 3} {
		x := tableOf(mapOf(api.Udp, 2, 5, 0, 1024), mapOf(api.Udp, 2, 6, 1, 1024))
		x.Home[2] = home
		isGood(t, x, false, "two homes")
	}
}

func TestGoodTwice(t *testing.T) {
	more := func(m api.Map) api.Table {
		x := some()
		x.Maps = append(x.Maps, m)
		return x
	}
	for _, m := range some().Maps {
		isGood(t, more(m), false, "a map twice")
	}
	isGood(t, more(mapOf(api.Udp, 0, 6, 1, 1032)), false, "one A and Port")
	isGood(t, more(mapOf(api.Udp, 0, 5, 1, 1033)), false, "one S and In")
	isGood(t, more(mapOf(api.Udp, 0, 6, 1, 1033)), true, "neither")
	isGood(t, more(mapOf(api.Ping, 0, 5, 1, 1032)), true, "of another protocol")
	isGood(t, more(mapOf(api.Tcp, 1, 5, 0, 1024)), true, "of another subscriber")
	isGood(t, more(mapOf(api.Tcp, 0, 6, 1, 1033)), true, "one Port of another protocol")
	// The same at the front, where the wrong one is not the last.
	for i := range some().Maps {
		x := some()
		x.Maps = append([]api.Map{x.Maps[i]}, x.Maps...)
		isGood(t, x, false, "a map twice")
	}
}

func TestGoodJustThoseBlocks(t *testing.T) {
	for a := range 3 {
		for block := range 6 {
			x := some()
			if x.Pool.Owner[a][block] != 0 {
				x.Pool.Owner[a][block] = 0
				isGood(t, x, false, "a map in a block of nobody")
				continue
			}
			for owner := 1; owner <= 8; owner++ {
				x.Pool.Owner[a][block] = owner
				isGood(t, x, false, "a block without a map")
			}
		}
	}
	// The port lies in that block, but of another address.
	x := tableOf(mapOf(api.Udp, 2, 5, 0, 1024))
	x.Pool.Owner[1][0] = 3
	isGood(t, x, false, "a block of another address")
	x.Pool.Owner[1][0] = 4
	isGood(t, x, false, "another one's block of another address")
}

func TestGoodMaxBlocks(t *testing.T) {
	two := []api.Map{mapOf(api.Udp, 2, 5, 0, 1024), mapOf(api.Tcp, 2, 5, 0, 1071)}
	isGood(t, tableOf(two...), true, "MaxBlocks")
	for _, port := range []int{1032, 1047, 1050, 1063} {
		isGood(t, tableOf(append(two, mapOf(api.Ping, 2, 5, 0, port))...), false, "more than MaxBlocks")
		isGood(t, tableOf(append(two, mapOf(api.Ping, 3, 5, 0, port))...), true, "MaxBlocks, and a neighbour's")
	}
}

func TestGoodMaxMaps(t *testing.T) {
	for s := range 8 {
		isGood(t, tableOf(many(s, 1, 3, 12)...), true, "MaxMaps")
		isGood(t, tableOf(many(s, 1, 3, 13)...), false, "more than MaxMaps")
		isGood(t, tableOf(append(many(s, 1, 3, 12), mapOf(api.Ping, s, 5, 1, 1024))...), false, "more than MaxMaps, in two blocks")
		isGood(t, tableOf(append(many(s, 1, 3, 12), many((s+1)%8, 1, 4, 12)...)...), true, "MaxMaps of two")
	}
	var all []api.Map
	for s := range 8 {
		all = append(all, many(s, s%3, s/3, 12)...)
	}
	isGood(t, tableOf(all...), true, "MaxMaps of each")
	isGood(t, tableOf(append(all, mapOf(api.Udp, 4, 5, 1, 1039))...), false, "one more")
	x := tableOf(all...)
	x.Maps = make([]api.Map, 1<<20)
	isGood(t, x, false, "a great many")
}

func TestGoodHome(t *testing.T) {
	for s, right := range some().Home {
		for _, home := range []int{-1, 0, 1, 2, 3, 4, math.MinInt, math.MaxInt} {
			x := some()
			x.Home[s] = home
			isGood(t, x, home == right, "a home")
		}
	}
}

// P5.3

func TestFind(t *testing.T) {
	x := some()
	for _, m := range x.Maps {
		if got, ok := Find(x, m.Proto, m.S, m.In); got != m || !ok {
			t.Errorf("Find of %v: %v, %v", m, got, ok)
		}
	}
	for _, k := range [][3]int{{1, 0, 5}, {6, 1, 5}, {17, 0, 6}, {17, 7, 5}, {17, 1, 1024}, {0, 0, 0}, {17, 5, 0}, {-1, -1, -1}, {17, 0, 1032}, {1, 0, 1055}, {17, 2, 5}} {
		if got, ok := Find(x, k[0], k[1], k[2]); got != (api.Map{}) || ok {
			t.Errorf("Find of %v: %v, %v", k, got, ok)
		}
	}
	if got, ok := Find(api.Table{}, 0, 0, 0); got != (api.Map{}) || ok {
		t.Errorf("Find in none: %v, %v", got, ok)
	}
}

func TestBack(t *testing.T) {
	x := some()
	for _, m := range x.Maps {
		if got, ok := Back(x, m.Proto, m.A, m.Port); got != m || !ok {
			t.Errorf("Back of %v: %v, %v", m, got, ok)
		}
	}
	for _, k := range [][3]int{{1, 1, 1032}, {6, 0, 1024}, {17, 1, 1033}, {17, 0, 1032}, {17, 2, 1071}, {0, 0, 0}, {17, 1, 5}, {-1, -1, -1}, {6, 2, 5}, {17, 0, 1023}} {
		if got, ok := Back(x, k[0], k[1], k[2]); got != (api.Map{}) || ok {
			t.Errorf("Back of %v: %v, %v", k, got, ok)
		}
	}
	if got, ok := Back(api.Table{}, 0, 0, 0); got != (api.Map{}) || ok {
		t.Errorf("Back in none: %v, %v", got, ok)
	}
}

// Of several the first one; they ask nothing else of a table.
func TestFirstOfSeveral(t *testing.T) {
	x := api.Table{Maps: []api.Map{
		mapOf(17, 0, 6, 0, 7), mapOf(17, 0, 5, 1, 8), mapOf(17, 0, 5, 0, 7), mapOf(17, 0, 5, 1, 9), mapOf(6, 1, 5, 1, 9),
		mapOf(-9, -9, 70000, math.MinInt, math.MaxInt), mapOf(-9, 3, 4, math.MinInt, math.MaxInt), {},
	}}
	finds := map[[3]int]int{{17, 0, 5}: 1, {17, 0, 6}: 0, {6, 1, 5}: 4, {-9, -9, 70000}: 5, {-9, 3, 4}: 6, {0, 0, 0}: 7}
	for k, at := range finds {
		if m, ok := Find(x, k[0], k[1], k[2]); m != x.Maps[at] || !ok {
			t.Errorf("Find of %v: %v, %v", k, m, ok)
		}
	}
	backs := map[[3]int]int{{17, 0, 7}: 0, {17, 1, 8}: 1, {17, 1, 9}: 3, {6, 1, 9}: 4, {-9, math.MinInt, math.MaxInt}: 5, {0, 0, 0}: 7}
	for k, at := range backs {
		if m, ok := Back(x, k[0], k[1], k[2]); m != x.Maps[at] || !ok {
			t.Errorf("Back of %v: %v, %v", k, m, ok)
		}
	}
}

// P5.4

func TestOpenThereAlready(t *testing.T) {
	for _, m := range some().Maps {
		for _, draw := range []int{0, 1, -1, math.MaxInt, math.MinInt} {
			hasAlready(t, some(), m, draw)
			hasAlready(t, drained(some(), 0, 1, 2), m, draw)
		}
	}
	// One who has MaxMaps is given those that there are.
	full := tableOf(many(3, 2, 1, 12)...)
	for _, m := range full.Maps {
		hasAlready(t, full, m, 0)
	}
}

func TestOpenFirst(t *testing.T) {
	// Of three addresses, then of six blocks, by one draw.
	for draw := -20; draw <= 20; draw++ {
		a, block := ((draw%3)+3)%3, ((draw%6)+6)%6
		for s := range 8 {
			opens(t, api.Table{}, api.Ping, s, 9, draw, mapOf(api.Ping, s, 9, a, 1024+8*block), block)
		}
	}
	opens(t, api.Table{}, api.Tcp, 0, 0, math.MaxInt, mapOf(api.Tcp, 0, 0, 1, 1032), 1)
	opens(t, api.Table{}, api.Tcp, 0, 65535, math.MinInt, mapOf(api.Tcp, 0, 65535, 1, 1056), 4)
	// Some are drained, some blocks are let.
	opens(t, drained(api.Table{}, 0, 2), api.Udp, 4, 5, 2, mapOf(api.Udp, 4, 5, 1, 1040), 2)
	opens(t, some(), api.Udp, 4, 5, 0, mapOf(api.Udp, 4, 5, 0, 1032), 1)
	opens(t, some(), api.Udp, 4, 5, 1, mapOf(api.Udp, 4, 5, 1, 1040), 2)
	opens(t, some(), api.Udp, 4, 5, -1, mapOf(api.Udp, 4, 5, 2, 1056), 4)
}

func TestOpenLeastPort(t *testing.T) {
	x := some()
	x = opens(t, x, api.Udp, 0, 6, 9, mapOf(api.Udp, 0, 6, 1, 1033), -1)
	x = opens(t, x, api.Ping, 0, 6, 9, mapOf(api.Ping, 0, 6, 1, 1032), -1)
	x = opens(t, x, api.Udp, 1, 6, 9, mapOf(api.Udp, 1, 6, 0, 1025), -1)
	x = opens(t, x, api.Tcp, 1, 5, 9, mapOf(api.Tcp, 1, 5, 0, 1024), -1)
	x = opens(t, x, api.Tcp, 7, 6, 9, mapOf(api.Tcp, 7, 6, 2, 1064), -1)
	// A port that lies between is used again.
	x = closes(t, x, mapOf(api.Udp, 0, 5, 1, 1032), false, false)
	x = opens(t, x, api.Udp, 0, 7, 9, mapOf(api.Udp, 0, 7, 1, 1032), -1)
	opens(t, x, api.Udp, 0, 5, 9, mapOf(api.Udp, 0, 5, 1, 1034), -1)
}

// An address that is drained, or of which none is left, is still good for ports of blocks that are let.
func TestOpenInBlocksOfDrained(t *testing.T) {
	x := drained(some(), 0, 1, 2)
	opens(t, x, api.Udp, 0, 6, 9, mapOf(api.Udp, 0, 6, 1, 1033), -1)
	opens(t, x, api.Tcp, 7, 6, 9, mapOf(api.Tcp, 7, 6, 2, 1064), -1)
}

func TestOpenOneBlockMore(t *testing.T) {
	for proto, other := range map[int]int{api.Ping: api.Tcp, api.Tcp: api.Udp, api.Udp: api.Ping} {
		x := tableOf(filled(proto, 5, 2, 3)...)
		for draw, block := range map[int]int{0: 0, 1: 1, 2: 2, 3: 4, 4: 5, 5: 0, -1: 5, -2: 4, math.MaxInt: 2, math.MinInt: 2} {
			opens(t, x, proto, 5, 9, draw, mapOf(proto, 5, 9, 2, 1024+8*block), block)
		}
		// To another protocol, and to another subscriber, the block is not full.
		opens(t, x, other, 5, 9, 0, mapOf(other, 5, 9, 2, 1048), -1)
		opens(t, x, proto, 6, 9, 2, mapOf(proto, 6, 9, 2, 1040), 2)
	}
	// It stays at home, though a draw would have another address.
	opens(t, tableOf(filled(api.Udp, 5, 2, 0)...), api.Udp, 5, 9, 0, mapOf(api.Udp, 5, 9, 2, 1032), 1)
}

// A block below the first one is gone through first from then on.
func TestOpenLeastOfTwoBlocks(t *testing.T) {
	x := tableOf(filled(api.Udp, 5, 1, 4)...)
	x = opens(t, x, api.Udp, 5, 9, 1, mapOf(api.Udp, 5, 9, 1, 1032), 1)
	x = opens(t, x, api.Udp, 5, 10, 1, mapOf(api.Udp, 5, 10, 1, 1033), -1)
	x = closes(t, x, mapOf(api.Udp, 5, 203, 1, 1059), false, false)
	x = opens(t, x, api.Udp, 5, 11, 1, mapOf(api.Udp, 5, 11, 1, 1034), -1)
	opens(t, x, api.Tcp, 5, 11, 1, mapOf(api.Tcp, 5, 11, 1, 1032), -1)
}

// One who has MaxBlocks has ports left in them as long as it may have maps.
func TestOpenMaxBlocks(t *testing.T) {
	x := tableOf(append(filled(api.Udp, 5, 1, 4), mapOf(api.Tcp, 5, 9, 1, 1071))...)
	x = opens(t, x, api.Udp, 5, 9, 1, mapOf(api.Udp, 5, 9, 1, 1064), -1)
	x = opens(t, x, api.Udp, 5, 10, 1, mapOf(api.Udp, 5, 10, 1, 1065), -1)
	x = opens(t, x, api.Udp, 5, 11, 1, mapOf(api.Udp, 5, 11, 1, 1066), -1)
	opensNot(t, x, api.Udp, 5, 12, 1, api.ErrFull)
}

func TestOpenMaxMaps(t *testing.T) {
	for s := range 8 {
		x := tableOf(many(s, 1, 3, 11)...)
		x = opens(t, x, api.Ping, s, 9, 0, mapOf(api.Ping, s, 9, 1, 1051), -1)
		for _, proto := range []int{api.Ping, api.Tcp, api.Udp} {
			opensNot(t, x, proto, s, 10, 0, api.ErrFull)
		}
		// The neighbour's maps are not its own.
		opens(t, x, api.Ping, (s+1)%8, 9, 0, mapOf(api.Ping, (s+1)%8, 9, 0, 1024), 0)
	}
}

func TestOpenRange(t *testing.T) {
	for _, x := range []api.Table{{}, some()} {
		for _, draw := range []int{0, 7, -1} {
			opensNot(t, bad(x), api.Udp, 2, 5, draw, api.ErrRange)
			for _, proto := range noProtocols {
				opensNot(t, x, proto, 2, 5, draw, api.ErrRange)
			}
			for _, s := range noSubscribers {
				opensNot(t, x, api.Udp, s, 5, draw, api.ErrRange)
			}
			for _, in := range noWords {
				opensNot(t, x, api.Udp, 2, in, draw, api.ErrRange)
			}
			for _, n := range []int{-1, 65536, math.MinInt, math.MaxInt} {
				opensNot(t, x, n, n, n, draw, api.ErrRange)
				opensNot(t, bad(x), n, n, n, draw, api.ErrRange)
			}
		}
	}
	// Whatever makes a table one that is not good.
	x := some()
	x.Pool.Owner[2][0] = 9
	opensNot(t, x, api.Udp, 2, 5, 0, api.ErrRange)
	x = some()
	x.Pool.Owner[2][0] = 2
	opensNot(t, x, api.Udp, 2, 5, 0, api.ErrRange)
	x = some()
	x.Maps[2].Port = 1072
	opensNot(t, x, api.Udp, 2, 5, 0, api.ErrRange)
}

// Home is drained, or has no block left; of a subscriber without one: all are.
func TestOpenErrorsOfThePool(t *testing.T) {
	x := tableOf(filled(api.Udp, 5, 2, 0)...)
	opensNot(t, drained(x, 2), api.Udp, 5, 9, 0, api.ErrDrained)
	opensNot(t, drained(x, 0, 1, 2), api.Udp, 5, 9, 0, api.ErrDrained)
	opens(t, drained(x, 0, 1), api.Udp, 5, 9, 0, mapOf(api.Udp, 5, 9, 2, 1032), 1)
	opensNot(t, drained(x, 0, 1, 2), api.Udp, 6, 9, 0, api.ErrDown)

	let := filled(api.Udp, 5, 2, 0)
	for i, s := range []int{0, 1, 2, 3, 4} {
		let = append(let, mapOf(api.Udp, s, 5, 2, 1032+8*i))
	}
	x = tableOf(let...)
	for _, draw := range []int{0, 1, -1, math.MaxInt, math.MinInt} {
		opensNot(t, x, api.Udp, 5, 9, draw, api.ErrDown)
		// Drained is named first.
		opensNot(t, drained(x, 2), api.Udp, 5, 9, draw, api.ErrDrained)
		opensNot(t, drained(x, 0, 1), api.Udp, 6, 9, draw, api.ErrDown)
	}
	opens(t, x, api.Udp, 6, 9, 2, mapOf(api.Udp, 6, 9, 0, 1040), 2)
}

func TestOpenTwoWrongs(t *testing.T) {
	full := tableOf(many(3, 2, 1, 12)...)
	for _, n := range []int{-1, 65536, math.MinInt, math.MaxInt} {
		opensNot(t, full, n, 3, 9, 0, api.ErrRange)
		opensNot(t, full, api.Udp, 3, n, 0, api.ErrRange)
	}
	opensNot(t, bad(full), api.Udp, 3, 9, 0, api.ErrRange)
	// There already, in a table that is not good.
	opensNot(t, bad(full), api.Udp, 3, 100, 0, api.ErrRange)
	// Too many maps, no port left, and an address that is drained.
	x := append(filled(api.Udp, 3, 2, 1), mapOf(api.Tcp, 3, 1, 2, 1032), mapOf(api.Tcp, 3, 2, 2, 1033), mapOf(api.Tcp, 3, 3, 2, 1034))
	opensNot(t, drained(tableOf(x...), 2), api.Udp, 3, 9, 0, api.ErrDrained)
	x = append(x, mapOf(api.Tcp, 3, 4, 2, 1035))
	opensNot(t, drained(tableOf(x...), 2), api.Udp, 3, 9, 0, api.ErrFull)
	// Wrong, and no block anywhere.
	down := drained(api.Table{}, 0, 1, 2)
	opensNot(t, bad(down), api.Udp, 3, 9, 0, api.ErrRange)
	opensNot(t, down, api.Udp, 8, 9, 0, api.ErrRange)
	opensNot(t, down, api.Udp, 3, 9, 0, api.ErrDown)
}

// What was answered once is not changed by what is opened and closed behind it.
func TestAnsweredStays(t *testing.T) {
	x, _, _, _ := Open(api.Table{}, api.Udp, 0, 1, 0)
	x, _, _, _ = Open(x, api.Udp, 0, 2, 0)
	x, _, _, _ = Open(x, api.Udp, 0, 3, 0)
	was := x
	was.Maps = slices.Clone(x.Maps)
	left, _, _, _ := Open(x, api.Udp, 0, 4, 0)
	right, _, _, _ := Open(x, api.Tcp, 1, 5, 0)
	if left.Maps[3].In != 4 || right.Maps[3].In != 5 {
		t.Errorf("two tables share a list: %v, %v", left.Maps, right.Maps)
	}
	shorter, _, _ := Close(x, x.Maps[0])
	Open(shorter, api.Udp, 0, 6, 0)
	if !same(x, was) {
		t.Errorf("it is %v now; it was %v", x, was)
	}
}

// P5.5

func TestClose(t *testing.T) {
	x := some()
	// Another protocol's map lies in the block still.
	x = closes(t, x, mapOf(api.Udp, 0, 5, 1, 1032), false, false)
	x = closes(t, x, mapOf(api.Tcp, 0, 5, 1, 1032), true, false)
	x = closes(t, x, mapOf(api.Ping, 0, 0, 1, 1055), true, true)
	x = closes(t, x, mapOf(api.Udp, 1, 65535, 0, 1031), false, false)
	x = closes(t, x, mapOf(api.Tcp, 7, 5, 2, 1071), true, true)
	x = closes(t, x, mapOf(api.Udp, 1, 5, 0, 1024), true, true)
	if !same(x, api.Table{}) {
		t.Errorf("all is closed: %v", x)
	}
}

// A map in the same block of another address, or of a neighbour's, keeps none.
func TestCloseNeighbours(t *testing.T) {
	x := tableOf(mapOf(api.Udp, 0, 5, 0, 1024), mapOf(api.Udp, 1, 5, 1, 1024), mapOf(api.Udp, 2, 5, 0, 1032))
	closes(t, x, x.Maps[0], true, true)
	closes(t, x, x.Maps[1], true, true)
	closes(t, x, x.Maps[2], true, true)
	closes(t, drained(x, 0), x.Maps[0], true, true)
}

func TestCloseOneByOne(t *testing.T) {
	x := drained(tableOf(many(6, 1, 5, 12)...), 1)
	for len(x.Maps) > 0 {
		x = closes(t, x, x.Maps[len(x.Maps)/2], len(x.Maps) == 1, len(x.Maps) == 1)
	}
	if !same(x, drained(api.Table{}, 1)) {
		t.Errorf("all is closed: %v", x)
	}
}

func TestCloseErrors(t *testing.T) {
	for _, m := range some().Maps {
		closesNot(t, bad(some()), m, api.ErrRange)
		for _, n := range []int{-1, 4, 1033, 65536, math.MinInt, math.MaxInt} {
			for _, other := range []api.Map{
				{Proto: n, S: m.S, In: m.In, A: m.A, Port: m.Port},
				{Proto: m.Proto, S: n, In: m.In, A: m.A, Port: m.Port},
				{Proto: m.Proto, S: m.S, In: n, A: m.A, Port: m.Port},
				{Proto: m.Proto, S: m.S, In: m.In, A: n, Port: m.Port},
				{Proto: m.Proto, S: m.S, In: m.In, A: m.A, Port: n},
				{Proto: n, S: n, In: n, A: n, Port: n},
			} {
				closesNot(t, some(), other, api.ErrNone)
				// Both: the table is not good, and there is none such.
				closesNot(t, bad(some()), other, api.ErrRange)
			}
		}
		rest, _, _ := Close(some(), m)
		closesNot(t, rest, m, api.ErrNone)
	}
	closesNot(t, api.Table{}, api.Map{}, api.ErrNone)
	closesNot(t, bad(api.Table{}), api.Map{}, api.ErrRange)
}
