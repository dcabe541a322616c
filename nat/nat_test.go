package nat

import (
	"fmt"
	"math"
	"slices"
	"testing"

	"rentroll/api"
	"rentroll/record"
	"rentroll/wire"
)

// Addresses inside and outside, as the document writes them.
const (
	in0  = 10<<24 + 1
	in1  = 10<<24 + 2
	in7  = 10<<24 + 8
	out0 = 203<<24 + 113<<8 + 1
	out1 = 203<<24 + 113<<8 + 2
	out2 = 203<<24 + 113<<8 + 3
)

func udp(from, sport, to, dport int) api.Packet {
	return api.Packet{Proto: api.Udp, From: from, Sport: sport, To: to, Dport: dport, Ttl: 64, Body: "b"}
}

func tcp(from, sport, to, dport, flags int) api.Packet {
	return api.Packet{Proto: api.Tcp, From: from, Sport: sport, To: to, Dport: dport, Ttl: 64, Flags: flags}
}

func asking(from, id, to int) api.Packet {
	return api.Packet{Proto: api.Ping, From: from, Sport: id, To: to, Ttl: 64, Flags: 8, Seq: 1}
}

func answering(from, to, id int) api.Packet {
	return api.Packet{Proto: api.Ping, From: from, To: to, Dport: id, Ttl: 64, Seq: 1}
}

func withTtl(p api.Packet, ttl int) api.Packet {
	p.Ttl = ttl
	return p
}

func frameOf(p api.Packet) string {
	f, e := wire.Build(p)
	if e != api.OK {
		panic("a packet of a test is good")
	}
	return f
}

func outAct(p api.Packet) api.Act { return api.Act{Kind: api.ActOut, Frame: frameOf(p)} }

func outDraw(p api.Packet, draw int) api.Act {
	return api.Act{Kind: api.ActOut, Frame: frameOf(p), Draw: draw}
}

func inAct(p api.Packet) api.Act { return api.Act{Kind: api.ActIn, Frame: frameOf(p)} }

func ticks(n int) api.Act { return api.Act{Kind: api.ActTick, N: n} }

func drain(a int) api.Act { return api.Act{Kind: api.ActDrain, N: a} }

func undrain(a int) api.Act { return api.Act{Kind: api.ActUndrain, N: a} }

// templated is a log's first message with what stands ahead of it.
func templated(s string) string {
	first, _ := record.Template(0)
	return first + s
}

func message(seq int, l ...api.Event) string {
	s, e := record.Message(seq, l)
	if e != api.OK {
		panic("events of a test are good")
	}
	return s
}

func taken(time, s, a, block int) api.Event {
	return api.Event{Time: time, S: s, A: a, Block: block}
}

func given(time, s, a, block int) api.Event {
	return api.Event{Time: time, S: s, A: a, Block: block, Free: true}
}

// state is all of a road that can be seen.
type state struct {
	now   int
	table api.Table
	flows []api.Flow
}

func stateOf(n *Nat) state { return state{n.Now(), n.Table(), n.Flows()} }

func sameState(x, y state) bool {
	return x.now == y.now && sameTable(x.table, y.table) && slices.Equal(x.flows, y.flows)
}

func reply(r api.Reply) string {
	return fmt.Sprintf("code %d, frame %x, inner %v, log %x", r.Code, r.Frame, r.Inner, r.Log)
}

func act(a api.Act) string {
	return fmt.Sprintf("kind %d, N %d, draw %d, frame %x", a.Kind, a.N, a.Draw, a.Frame)
}

func wantReply(t *testing.T, what string, got, want api.Reply) {
	t.Helper()
	if got != want {
		t.Errorf("%s: %s, not %s", what, reply(got), reply(want))
	}
}

func wantFlows(t *testing.T, what string, n *Nat, want ...api.Flow) {
	t.Helper()
	if got := n.Flows(); !slices.Equal(got, want) {
		t.Errorf("%s: flows %v, not %v", what, got, want)
	}
}

// wantNothing is an act of which nothing comes but an error.
func wantNothing(t *testing.T, what string, n *Nat, a api.Act, e api.Errno) {
	t.Helper()
	was := stateOf(n)
	wantReply(t, what, n.Do(a), api.Reply{Code: e})
	if now := stateOf(n); !sameState(was, now) {
		t.Errorf("%s: the road was %v and is %v", what, was, now)
	}
}

// mustDo is acts that only lead up to what is tested.
func mustDo(t *testing.T, n *Nat, acts ...api.Act) {
	t.Helper()
	for i, a := range acts {
		if r := n.Do(a); r.Code != api.OK {
			t.Fatalf("act %d (%s) says %d", i, act(a), r.Code)
		}
	}
}

// wantTold is how many refusals a road may tell: each of a frame that it cannot but refuse.
func wantTold(t *testing.T, what string, n *Nat, refused api.Packet, e api.Errno, left int) {
	t.Helper()
	for ; left > 0; left-- {
		f, _ := wire.Refuse(frameOf(refused), left)
		wantReply(t, what, n.Do(outAct(refused)), api.Reply{Code: e, Frame: f, Inner: true})
	}
	for range 2 {
		wantNothing(t, what, n, outAct(refused), e)
	}
}

// someFlow is the one that begins when subscriber 0 sends from port 5 to 9, port 6, on a new road.
var someFlow = api.Flow{Map: api.Map{Proto: api.Udp, S: 0, In: 5, A: 0, Port: 1024}, Remote: 9, Rport: 6, State: api.Open, Due: 20}

// fill has subscriber 0's port 5 begin flows until there are MaxFlows, to 90 and ports from 0 on.
func fill(t *testing.T, n *Nat) {
	t.Helper()
	for i := range 48 - len(n.Flows()) {
		mustDo(t, n, outAct(udp(in0, 5, 90, i)))
	}
	if len(n.Flows()) != 48 {
		t.Fatalf("%d flows", len(n.Flows()))
	}
}

// The examples of the whole

func TestExamples(t *testing.T) {
	n := New(false)
	wantReply(t, "1", n.Do(outAct(udp(in0, 5, 9, 6))), api.Reply{
		Frame: frameOf(withTtl(udp(out0, 1024, 9, 6), 63)),
		Log:   templated(message(0, taken(0, 0, 0, 0))),
	})
	wantReply(t, "2", n.Do(inAct(udp(9, 6, out0, 1024))), api.Reply{
		Frame: frameOf(withTtl(udp(9, 6, in0, 5), 63)),
		Inner: true,
	})
	wantNothing(t, "2", n, inAct(udp(10, 6, out0, 1024)), api.ErrFilter)
	// The neighbour sends first, to where nobody is yet: what comes from there may come in then.
	wantReply(t, "3", n.Do(outDraw(udp(in0, 5, out1, 1024), 0)), api.Reply{Code: api.ErrNone})
	wantReply(t, "3", n.Do(outDraw(udp(in1, 7, out0, 1024), 4)), api.Reply{
		Frame: frameOf(withTtl(udp(out1, 1056, in0, 5), 62)),
		Inner: true,
		Log:   message(1, taken(0, 1, 1, 4)),
	})
	// The last flow to begin was that of subscriber 0's map, when the frame came back in.
	wantReply(t, "4", n.Do(ticks(60)), api.Reply{
		Log: message(2, given(60, 1, 1, 4), given(60, 0, 0, 0)),
	})
	if got := stateOf(n); !sameState(got, state{now: 60}) {
		t.Errorf("4: %v is left", got)
	}
}

// P8.1

func TestNewRoad(t *testing.T) {
	for _, loose := range []bool{false, true} {
		n := New(loose)
		if got := stateOf(n); !sameState(got, state{}) {
			t.Errorf("New(%v) is %v", loose, got)
		}
		mustDo(t, n, drain(0), drain(1), drain(2))
		wantTold(t, "a new road", n, udp(in0, 5, 9, 6), api.ErrDown, 4)
	}
}

func TestRoadsAreApart(t *testing.T) {
	n, m := New(false), New(false)
	mustDo(t, n, outAct(udp(in0, 5, 9, 6)), ticks(3), drain(1))
	if got := stateOf(m); !sameState(got, state{}) {
		t.Errorf("what was done to another road made this one %v", got)
	}
}

func TestNilRoad(t *testing.T) {
	var n *Nat
	acts := []api.Act{{}, outAct(udp(in0, 5, 9, 6)), inAct(udp(9, 6, out0, 1024)), ticks(1), ticks(0), drain(0), undrain(0), {Kind: 9}}
	for _, a := range acts {
		wantNothing(t, "nil", n, a, api.ErrNone)
	}
	if got := stateOf(n); !sameState(got, state{}) {
		t.Errorf("a nil road is %v", got)
	}
}

func TestRoadThatNobodyMade(t *testing.T) {
	n := &Nat{}
	mustDo(t, n, outAct(udp(in0, 5, 9, 6)), inAct(udp(9, 6, out0, 1024)), ticks(20), drain(0), undrain(0))
	if got := stateOf(n); !sameState(got, state{now: 20}) {
		t.Errorf("it is %v", got)
	}
}

func TestFlowsAsTheyBegan(t *testing.T) {
	n := New(false)
	mustDo(t, n, outAct(tcp(in1, 8, 9, 6, api.Syn)), outAct(udp(in0, 5, 9, 6)), ticks(1), outAct(asking(in1, 3, 9)))
	// Blocks of one address are taken as they are left: subscriber 1's is the first.
	fromTcp := api.Flow{Map: api.Map{Proto: api.Tcp, S: 1, In: 8, A: 0, Port: 1024}, Remote: 9, Rport: 6, State: api.Opening, Due: 4}
	fromUdp := api.Flow{Map: api.Map{Proto: api.Udp, S: 0, In: 5, A: 0, Port: 1032}, Remote: 9, Rport: 6, State: api.Open, Due: 20}
	fromPing := api.Flow{Map: api.Map{Proto: api.Ping, S: 1, In: 3, A: 0, Port: 1024}, Remote: 9, State: api.Open, Due: 9}
	wantFlows(t, "begun", n, fromTcp, fromUdp, fromPing)
	mustDo(t, n, outAct(udp(in0, 5, 9, 6)), inAct(tcp(9, 6, out0, 1024, api.Syn|api.Ack)))
	fromUdp.Due, fromTcp.Due, fromTcp.State = 21, 61, api.Open
	wantFlows(t, "gone on", n, fromTcp, fromUdp, fromPing)
	mustDo(t, n, ticks(20), outAct(udp(in0, 5, 9, 6)))
	fromUdp.Due = 41
	wantFlows(t, "begun anew", n, fromTcp, fromUdp)
	mustDo(t, n, ticks(1))
	wantTable := api.Table{Maps: []api.Map{fromTcp.Map, fromUdp.Map}}
	wantTable.Pool.Owner[0], wantTable.Home = [6]int{2, 1}, [8]int{1, 1}
	if got := n.Table(); !sameTable(got, wantTable) {
		t.Errorf("table %v, not %v", got, wantTable)
	}
}

func TestWhatIsAnsweredIsTheCallers(t *testing.T) {
	n := New(true)
	mustDo(t, n, outAct(udp(in0, 5, 9, 6)), outAct(udp(in0, 6, 9, 6)), outAct(udp(in1, 5, 9, 6)))
	was := stateOf(n)
	seen := stateOf(n)
	for i := range seen.flows {
		seen.flows[i] = api.Flow{Due: -1}
	}
	for i := range seen.table.Maps {
		seen.table.Maps[i] = api.Map{Port: -1}
	}
	_ = append(seen.flows[:1], api.Flow{Due: -2})
	_ = append(seen.table.Maps[:1], api.Map{Port: -2})
	seen.table.Pool.Owner[0][0] = -3
	seen.table.Home[0] = -3
	if now := stateOf(n); !sameState(was, now) {
		t.Errorf("the road was %v and is %v", was, now)
	}
	// What was answered stays as it is, whatever becomes of the road.
	kept := stateOf(n)
	mustDo(t, n, outAct(udp(in0, 7, 9, 6)), ticks(20), outAct(udp(in7, 7, 9, 6)), outAct(udp(in7, 8, 9, 6)))
	if !sameState(was, kept) {
		t.Errorf("what was answered was %v and is %v", was, kept)
	}
}

// P8.2

func TestKinds(t *testing.T) {
	n := New(false)
	mustDo(t, n, outAct(udp(in0, 5, 9, 6)))
	for _, kind := range []int{0, 6, 7, -1, -4, 1 << 32, 1<<32 + 3, math.MinInt, math.MaxInt} {
		wantNothing(t, "kind", n, api.Act{Kind: kind, N: 1, Frame: frameOf(udp(in0, 6, 9, 6))}, api.ErrKind)
	}
}

func TestActsUpToTheLast(t *testing.T) {
	for _, a := range []api.Act{{}, {Kind: 6}, outAct(udp(in0, 5, 9, 6)), inAct(udp(9, 6, out0, 1024)), ticks(1), ticks(0), drain(0), undrain(0), {Kind: api.ActOut}} {
		n := New(false)
		for i := range 299 {
			if e := n.Do(a).Code; e == api.ErrFull {
				t.Fatalf("act %d (%s) says ErrFull", i, act(a))
			}
		}
		wantReply(t, "the last", n.Do(drain(2)), api.Reply{})
		for _, b := range []api.Act{a, {}, {Kind: 6}, outAct(udp(in0, 5, 9, 6)), outAct(udp(in0, 6, 9, 6)), inAct(udp(9, 6, out0, 1024)), ticks(1), drain(1), undrain(2)} {
			wantNothing(t, "one more", n, b, api.ErrFull)
		}
	}
}

// What comes back in is no act of its own.
func TestActsThatComeBackInCountOnce(t *testing.T) {
	n := New(true)
	mustDo(t, n, outAct(udp(in0, 5, 9, 6)))
	for range 299 {
		mustDo(t, n, outDraw(udp(in1, 7, out0, 1024), 1))
	}
	wantNothing(t, "one more", n, ticks(1), api.ErrFull)
}

func TestDrain(t *testing.T) {
	n := New(false)
	for a := range api.Addresses {
		wantNothing(t, "not drained", n, undrain(a), api.ErrTwice)
		wantReply(t, "drain", n.Do(drain(a)), api.Reply{})
		want := api.Table{}
		for b := range a + 1 {
			want.Pool.Drained[b] = true
		}
		if got := n.Table(); !sameTable(got, want) {
			t.Errorf("drained %d: %v", a, got)
		}
		wantNothing(t, "drained", n, drain(a), api.ErrTwice)
	}
	wantReply(t, "undrain", n.Do(undrain(1)), api.Reply{})
	if got := n.Table().Pool.Drained; got != [3]bool{true, false, true} {
		t.Errorf("undrained 1: %v", got)
	}
	for _, a := range []int{-1, 3, 4, 1 << 32, math.MinInt, math.MaxInt} {
		wantNothing(t, "no address", n, drain(a), api.ErrNone)
		wantNothing(t, "no address", n, undrain(a), api.ErrNone)
	}
}

func TestDrainedAddressIsLetNoMore(t *testing.T) {
	n := New(false)
	mustDo(t, n, outAct(udp(in0, 5, 9, 6)), drain(0))
	// What is let goes on, and ports of a block that is let are given out.
	mustDo(t, n, outAct(udp(in0, 5, 9, 6)), outAct(udp(in0, 5, 9, 7)), outAct(udp(in0, 6, 9, 6)), inAct(udp(9, 6, out0, 1024)))
	r := n.Do(outDraw(udp(in1, 5, 9, 6), 0))
	wantReply(t, "another address", r, api.Reply{Frame: frameOf(withTtl(udp(out1, 1024, 9, 6), 63)), Log: message(1, taken(0, 1, 1, 0))})
	for k := range 6 {
		mustDo(t, n, outAct(udp(in0, 7+k, 9, 6)))
	}
	wantTold(t, "a second block", n, udp(in0, 13, 9, 6), api.ErrDrained, 4)
	mustDo(t, n, undrain(0))
	r = n.Do(outDraw(udp(in0, 13, 9, 6), 2))
	wantReply(t, "undrained", r, api.Reply{Frame: frameOf(withTtl(udp(out0, 1024+3*8, 9, 6), 63)), Log: message(2, taken(0, 0, 0, 3))})
	// A drained address's blocks come back.
	mustDo(t, n, drain(0))
	wantReply(t, "given back", n.Do(ticks(20)), api.Reply{Log: message(3, given(20, 1, 1, 0), given(20, 0, 0, 0), given(20, 0, 0, 3))})
	if got := n.Table(); got.Pool.Drained != [3]bool{true} || got.Home != [8]int{} || len(got.Maps) != 0 {
		t.Errorf("%v is left", got)
	}
}

// P8.8

func TestRun(t *testing.T) {
	for _, l := range [][]api.Act{nil, {}} {
		if got, e := Run(false, l); len(got) != 0 || e != api.OK {
			t.Errorf("Run of no acts = %v, %d", got, e)
		}
	}
	l := []api.Act{outAct(udp(in0, 5, 9, 6)), inAct(udp(77, 6, out0, 1024)), {}, ticks(20), ticks(0), drain(1), drain(1)}
	for loose, code := range map[bool]api.Errno{false: api.ErrFilter, true: api.OK} {
		got, e := Run(loose, l)
		n := New(loose)
		var want []api.Reply
		for _, a := range l {
			want = append(want, n.Do(a))
		}
		if len(got) != len(want) || e != api.OK || got[1].Code != code {
			t.Fatalf("Run(%v) = %d replies, %d", loose, len(got), e)
		}
		for i := range want {
			wantReply(t, "Run", got[i], want[i])
		}
	}
}

func TestRunAtItsEnd(t *testing.T) {
	l := make([]api.Act, 301, 400)
	for i := range l {
		l[i] = ticks(1)
	}
	was := slices.Clone(l[:400])
	got, e := Run(false, l[:300])
	if len(got) != 300 || e != api.OK || slices.ContainsFunc(got, func(r api.Reply) bool { return r != api.Reply{} }) {
		t.Errorf("Run of 300 acts = %d replies, %d", len(got), e)
	}
	for _, more := range [][]api.Act{l, l[:400]} {
		if got, e := Run(true, more); len(got) != 0 || e != api.ErrFull {
			t.Errorf("Run of %d acts = %v, %d", len(more), got, e)
		}
	}
	if !slices.Equal(l[:400], was) {
		t.Error("Run changed the acts")
	}
}
