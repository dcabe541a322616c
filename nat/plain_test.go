package nat

import (
	"math"
	"math/rand"
	"slices"
	"testing"

	"rentroll/api"
	"rentroll/bind"
	"rentroll/pool"
	"rentroll/record"
	"rentroll/track"
	"rentroll/wire"
)

// What follows is the document's words on a road taken by their letter, as a measure that shares nothing with the package (of what the other chapters say it asks their packages).

type plainRoad struct {
	loose             bool
	acts, told, wrote int
	now               int
	table             api.Table
	flows             []api.Flow
}

func plainNew(loose bool) *plainRoad { return &plainRoad{loose: loose, told: 4} }

func (w *plainRoad) do(a api.Act) api.Reply {
	if w.acts == 300 {
		return api.Reply{Code: api.ErrFull}
	}
	w.acts++
	var e api.Errno
	switch a.Kind {
	case 1:
		return w.out(a.Frame, a.Draw)
	case 2:
		return w.in(a.Frame)
	case 3:
		return w.tick(a.N)
	case 4:
		w.table.Pool, e = pool.Drain(w.table.Pool, a.N)
		return api.Reply{Code: e}
	case 5:
		w.table.Pool, e = pool.Undrain(w.table.Pool, a.N)
		return api.Reply{Code: e}
	}
	return api.Reply{Code: api.ErrKind}
}

var plainInside = []int{10<<24 + 1, 10<<24 + 2, 10<<24 + 3, 10<<24 + 4, 10<<24 + 5, 10<<24 + 6, 10<<24 + 7, 10<<24 + 8}

var plainOutside = []int{203<<24 + 113<<8 + 1, 203<<24 + 113<<8 + 2, 203<<24 + 113<<8 + 3}

// plainTurned is P2.5's frame, made anew.
func plainTurned(p api.Packet, side, addr, port int) string {
	p.Ttl--
	if side == 0 {
		p.From, p.Sport = addr, port
	} else {
		p.To, p.Dport = addr, port
	}
	f, e := wire.Build(p)
	if e != api.OK {
		panic("a turned packet is good")
	}
	return f
}

func (w *plainRoad) out(frame string, draw int) api.Reply {
	p, e := wire.Parse(frame)
	if e != api.OK {
		return api.Reply{Code: e}
	}
	s := slices.Index(plainInside, p.From)
	if s < 0 {
		return api.Reply{Code: api.ErrNone}
	}
	if p.Proto == 1 && p.Flags == 0 {
		return api.Reply{Code: api.ErrKind}
	}
	if p.Ttl == 1 {
		return api.Reply{Code: api.ErrDead}
	}
	at := slices.IndexFunc(w.flows, func(f api.Flow) bool {
		want := api.Map{Proto: p.Proto, S: s, In: p.Sport, A: f.Map.A, Port: f.Map.Port}
		return f.Map == want && f.Remote == p.To && f.Rport == p.Dport
	})
	log := ""
	if at >= 0 {
		w.flows[at] = track.Next(w.flows[at], p, false, w.now)
	} else {
		if !track.Begins(p) {
			return api.Reply{Code: api.ErrFilter}
		}
		if len(w.flows) == 48 {
			return w.refused(frame, api.ErrFull)
		}
		t, m, took, e := bind.Open(w.table, p.Proto, s, p.Sport, draw)
		if e != api.OK {
			return w.refused(frame, e)
		}
		w.table = t
		if took {
			log = w.log([]api.Event{{Time: w.now, S: s, A: m.A, Block: (m.Port - 1024) / 8}})
		}
		at = len(w.flows)
		f := api.Flow{Map: m, Remote: p.To, Rport: p.Dport, State: track.First(p)}
		f.Due = w.now + track.Life(p.Proto, f.State)
		w.flows = append(w.flows, f)
	}
	m := w.flows[at].Map
	r := api.Reply{Frame: plainTurned(p, 0, plainOutside[m.A], m.Port)}
	if slices.Contains(plainOutside, p.To) {
		r = w.in(r.Frame)
	}
	r.Log = log
	return r
}

func (w *plainRoad) refused(frame string, e api.Errno) api.Reply {
	r := api.Reply{Code: e}
	if w.told > 0 {
		r.Frame, _ = wire.Refuse(frame, w.told)
		r.Inner = true
		w.told--
	}
	return r
}

func (w *plainRoad) in(frame string) api.Reply {
	p, e := wire.Parse(frame)
	if e != api.OK {
		return api.Reply{Code: e}
	}
	a := slices.Index(plainOutside, p.To)
	if a < 0 {
		return api.Reply{Code: api.ErrNone}
	}
	if p.Proto == 1 && p.Flags == 8 {
		return api.Reply{Code: api.ErrKind}
	}
	if p.Ttl == 1 {
		return api.Reply{Code: api.ErrDead}
	}
	m, ok := bind.Back(w.table, p.Proto, a, p.Dport)
	if !ok {
		return api.Reply{Code: api.ErrNone}
	}
	at, known := -1, false
	for i, f := range w.flows {
		if f.Map == m && f.Remote == p.From {
			known = true
			if f.Rport == p.Sport {
				at = i
			}
		}
	}
	if at >= 0 {
		w.flows[at] = track.Next(w.flows[at], p, true, w.now)
	} else {
		if !w.loose && !known {
			return api.Reply{Code: api.ErrFilter}
		}
		if p.Proto != 17 || len(w.flows) == 48 {
			return api.Reply{Code: api.ErrFilter}
		}
		w.flows = append(w.flows, api.Flow{Map: m, Remote: p.From, Rport: p.Sport, State: api.Open, Due: w.now + 20})
	}
	return api.Reply{Frame: plainTurned(p, 1, plainInside[m.S], m.In), Inner: true}
}

func (w *plainRoad) tick(ticks int) api.Reply {
	if ticks < 1 || ticks > 1<<39-w.now {
		return api.Reply{Code: api.ErrRange}
	}
	for range min(ticks, 4) {
		if w.told < 4 {
			w.told++
		}
	}
	w.now += ticks
	var gone []api.Event
	for {
		// The earliest Due, the first one of it in the order of the list.
		at := -1
		for i, f := range w.flows {
			if f.Due <= w.now && (at < 0 || f.Due < w.flows[at].Due) {
				at = i
			}
		}
		if at < 0 {
			return api.Reply{Log: w.log(gone)}
		}
		m := w.flows[at].Map
		w.flows = append(w.flows[:at:at], w.flows[at+1:]...)
		if slices.ContainsFunc(w.flows, func(f api.Flow) bool { return f.Map == m }) {
			continue
		}
		t, given, e := bind.Close(w.table, m)
		if e != api.OK {
			panic("a map of a flow is there")
		}
		w.table = t
		if given {
			gone = append(gone, api.Event{Time: w.now, S: m.S, A: m.A, Block: (m.Port - 1024) / 8, Free: true})
		}
	}
}

func (w *plainRoad) log(l []api.Event) string {
	if len(l) == 0 {
		return ""
	}
	s, _ := record.Message(w.wrote, l)
	if w.wrote == 0 {
		first, _ := record.Template(0)
		s = first + s
	}
	w.wrote += len(l)
	return s
}

// differs is what a road is otherwise than the measure says; empty: nothing.
func (w *plainRoad) differs(n *Nat) string {
	switch {
	case n.Now() != w.now:
		return "time"
	case !sameTable(n.Table(), w.table):
		return "table"
	case !slices.Equal(n.Flows(), w.flows):
		return "flows"
	}
	return ""
}

// mood is how often which acts come, and of how many they are.
type mood struct {
	out, in, tick, drain, wrong int
	subscribers, ports, remotes int
	protocols                   int
	longest                     int
}

var moods = []mood{
	{out: 40, in: 40, tick: 10, drain: 2, wrong: 3, subscribers: 3, ports: 4, remotes: 3, protocols: 3, longest: 8},
	{out: 80, in: 20, tick: 3, drain: 1, wrong: 1, subscribers: 8, ports: 12, remotes: 3, protocols: 3, longest: 6},
	{out: 80, in: 20, tick: 1, drain: 0, wrong: 1, subscribers: 8, ports: 20, remotes: 9, protocols: 3, longest: 2},
	{out: 80, in: 20, tick: 2, drain: 0, wrong: 0, subscribers: 4, ports: 14, remotes: 2, protocols: 3, longest: 70},
	{out: 30, in: 60, tick: 8, drain: 4, wrong: 4, subscribers: 2, ports: 3, remotes: 2, protocols: 3, longest: 20},
	{out: 80, in: 5, tick: 2, drain: 10, wrong: 0, subscribers: 3, ports: 14, remotes: 2, protocols: 1, longest: 8},
	{out: 60, in: 60, tick: 20, drain: 8, wrong: 1, subscribers: 8, ports: 2, remotes: 2, protocols: 3, longest: 12},
}

// anyOutside is an address and a port outside: mostly somebody's, at times one of the road's own.
func anyOutside(r *rand.Rand, w *plainRoad, m mood) (addr, port int) {
	if r.Intn(4) > 0 {
		return 100 + r.Intn(m.remotes), 6 + r.Intn(2)
	}
	if len(w.table.Maps) > 0 && r.Intn(5) > 0 {
		to := w.table.Maps[r.Intn(len(w.table.Maps))]
		return plainOutside[to.A], to.Port
	}
	return 203<<24 + 113<<8 + r.Intn(5), 1022 + r.Intn(52)
}

func anyFlags(r *rand.Rand) int {
	return []int{api.Syn, api.Syn, api.Syn | api.Ack, api.Ack, api.Fin, api.Fin | api.Ack, api.Rst, r.Intn(64)}[r.Intn(8)]
}

func anyTtl(r *rand.Rand) int { return []int{1, 2, 3, 64, 64, 64, 64, 64, 64, 255}[r.Intn(10)] }

func anyFrame(r *rand.Rand, p api.Packet, inward bool) string {
	p.Ttl = anyTtl(r)
	p.Id = r.Intn(65536)
	p.Body = "body"[:r.Intn(5)]
	switch p.Proto {
	case api.Tcp:
		p.Flags = anyFlags(r)
	case api.Ping:
		asks := inward == (r.Intn(10) == 0)
		if asks {
			p.Flags, p.Dport = 8, 0
		} else {
			p.Flags, p.Sport = 0, 0
		}
	}
	f, e := wire.Build(p)
	if e != api.OK {
		panic("a packet of a test is good")
	}
	return f
}

func anyOut(r *rand.Rand, w *plainRoad, m mood) api.Act {
	p := api.Packet{Proto: []int{api.Udp, api.Tcp, api.Ping}[r.Intn(m.protocols)]}
	p.From = 10<<24 + 1 + r.Intn(m.subscribers)
	p.Sport = 5 + r.Intn(m.ports)
	p.To, p.Dport = anyOutside(r, w, m)
	if p.Proto == api.Ping {
		p.Dport = 0
	}
	return api.Act{Kind: api.ActOut, Draw: r.Intn(40) - 20, Frame: anyFrame(r, p, false)}
}

func anyIn(r *rand.Rand, w *plainRoad, m mood) api.Act {
	p := api.Packet{Proto: []int{api.Udp, api.Tcp, api.Ping}[r.Intn(m.protocols)]}
	p.From, p.Sport = anyOutside(r, w, m)
	p.To, p.Dport = 203<<24+113<<8+r.Intn(5), 1022+r.Intn(52)
	if len(w.flows) > 0 && r.Intn(8) > 0 {
		f := w.flows[r.Intn(len(w.flows))]
		p.Proto, p.To, p.Dport = f.Map.Proto, plainOutside[f.Map.A], f.Map.Port
		if r.Intn(4) > 0 {
			p.From = f.Remote
		}
		if r.Intn(4) > 0 {
			p.Sport = f.Rport
		}
	}
	return api.Act{Kind: api.ActIn, Frame: anyFrame(r, p, true)}
}

func anyWrong(r *rand.Rand, w *plainRoad, m mood) api.Act {
	a := anyOut(r, w, m)
	switch r.Intn(5) {
	case 0:
		a.Kind = []int{0, 6, -1, math.MinInt, math.MaxInt}[r.Intn(5)]
	case 1:
		a.Frame = a.Frame[:r.Intn(len(a.Frame))]
	case 2:
		b := []byte(a.Frame)
		b[r.Intn(len(b))] ^= 1 << r.Intn(8)
		a.Frame = string(b)
	case 3:
		a.Kind = api.ActIn
	case 4:
		a.Kind = api.ActTick
		a.N = []int{0, -1, 1 << 39, 1<<39 + 1, math.MinInt, math.MaxInt}[r.Intn(6)]
	}
	return a
}

func anyAct(r *rand.Rand, w *plainRoad, m mood) api.Act {
	at := r.Intn(m.out + m.in + m.tick + m.drain + m.wrong)
	switch {
	case at < m.out:
		return anyOut(r, w, m)
	case at < m.out+m.in:
		return anyIn(r, w, m)
	case at < m.out+m.in+m.tick:
		return api.Act{Kind: api.ActTick, N: 1 + r.Intn(m.longest)}
	case at < m.out+m.in+m.tick+m.drain:
		return api.Act{Kind: api.ActDrain + r.Intn(2), N: r.Intn(5) - 1}
	}
	return anyWrong(r, w, m)
}

func TestAnyActs(t *testing.T) {
	seen := map[api.Errno]int{}
	for seed := range 600 {
		r := rand.New(rand.NewSource(int64(seed)))
		loose, m := r.Intn(2) == 0, moods[seed%len(moods)]
		n, w := New(loose), plainNew(loose)
		var acts []api.Act
		var replies []api.Reply
		for i := range api.MaxEvents + 2 {
			a := anyAct(r, w, m)
			was := n.Flows()
			want := w.do(a)
			got := n.Do(a)
			if got != want {
				t.Fatalf("seed %d, act %d (%s): %s, not %s (flows %v)", seed, i, act(a), reply(got), reply(want), was)
			}
			if d := w.differs(n); d != "" {
				t.Fatalf("seed %d, act %d (%s): %s: %v %v, not %v %v", seed, i, act(a), d, n.Table(), n.Flows(), w.table, w.flows)
			}
			seen[got.Code]++
			acts, replies = append(acts, a), append(replies, got)
		}
		if l, e := Run(loose, acts[:api.MaxEvents]); e != api.OK || !slices.Equal(l, replies[:api.MaxEvents]) {
			t.Fatalf("seed %d: Run answers otherwise than Do", seed)
		}
		wantOwners(t, n, replies)
	}
	// A measure that never comes to an error tells nothing of it.
	for _, e := range []api.Errno{api.OK, api.ErrForm, api.ErrRange, api.ErrSum, api.ErrKind, api.ErrFull, api.ErrNone, api.ErrTwice, api.ErrDrained, api.ErrDown, api.ErrFilter, api.ErrDead} {
		if seen[e] < 20 {
			t.Errorf("code %d came %d times", e, seen[e])
		}
	}
}

// wantOwners reads all that a road logged back, and holds it against the road's table.
func wantOwners(t *testing.T, n *Nat, replies []api.Reply) {
	t.Helper()
	log := ""
	for _, r := range replies {
		log += r.Log
	}
	events, e := record.Read(log)
	if e != api.OK {
		t.Fatalf("Read says %d", e)
	}
	p, e := record.Owners(events)
	if e != api.OK || p.Owner != n.Table().Pool.Owner {
		t.Fatalf("Owners = %v, %d, not %v", p, e, n.Table().Pool.Owner)
	}
}

func sameTable(x, y api.Table) bool {
	return x.Pool == y.Pool && x.Home == y.Home && slices.Equal(x.Maps, y.Maps)
}
