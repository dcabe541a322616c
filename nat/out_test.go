package nat

import (
	"testing"

	"rentroll/api"
	"rentroll/sums"
	"rentroll/wire"
)

// sealed is the bytes of a frame of Udp, or of none of the protocols, with the checks that they ask for.
func sealed(b []byte) string {
	b[26], b[27] = 0, 0
	ahead := string(b[12:20]) + string([]byte{0, b[9], byte((len(b) - 20) >> 8), byte(len(b) - 20)})
	c := sums.Check(ahead + string(b[20:]))
	b[26], b[27] = byte(c>>8), byte(c)
	b[10], b[11] = 0, 0
	c = sums.Check(string(b[:20]))
	b[10], b[11] = byte(c>>8), byte(c)
	return string(b)
}

// badFrames is frames of a packet of Udp of which Parse says each of its errors.
func badFrames(t *testing.T, p api.Packet) map[api.Errno]string {
	t.Helper()
	f := frameOf(p)
	sum, dead, kind := []byte(f), []byte(f), []byte(f)
	sum[10] ^= 1
	dead[8] = 0
	kind[9] = 2
	p.Body = string(make([]byte, 64))
	long := append([]byte(frameOf(p)), 'b')
	long[3], long[25] = long[3]+1, long[25]+1
	bad := map[api.Errno]string{
		api.ErrForm: f[:len(f)-1],
		api.ErrSum:  string(sum),
		api.ErrDead: sealed(dead),
		api.ErrKind: sealed(kind),
		api.ErrLong: sealed(long),
	}
	for want, f := range bad {
		if _, e := wire.Parse(f); e != want {
			t.Fatalf("Parse(%x) says %d, not %d", f, e, want)
		}
	}
	return bad
}

// changed is a packet on its way: its sender (side 1: receiver) is another one, its time to live is less.
func changed(p api.Packet, side, addr, port, less int) api.Packet {
	if side == 0 {
		p.From, p.Sport = addr, port
	} else {
		p.To, p.Dport = addr, port
	}
	p.Ttl -= less
	return p
}

// wantOut is a frame that goes out from an address and port; nothing is logged.
func wantOut(t *testing.T, what string, n *Nat, a api.Act, addr, port int) {
	t.Helper()
	p, _ := wire.Parse(a.Frame)
	wantReply(t, what, n.Do(a), api.Reply{Frame: frameOf(changed(p, 0, addr, port, 1))})
}

// P8.3

func TestOutBegins(t *testing.T) {
	for _, c := range []struct {
		p     api.Packet
		state int
		due   int
	}{
		{udp(in7, 5, 9, 6), api.Open, 27},
		{asking(in7, 5, 9), api.Open, 15},
		{tcp(in7, 5, 9, 6, api.Syn), api.Opening, 11},
		{tcp(in7, 5, 9, 6, api.Syn|8), api.Opening, 11},
		{udp(in7, 0, 0, 0), api.Open, 27},
		{udp(in7, 65535, 1<<32-1, 65535), api.Open, 27},
		{tcp(in7, 5, in0, 6, api.Syn), api.Opening, 11},
		{withTtl(udp(in7, 5, 9, 6), 2), api.Open, 27},
		{withTtl(asking(in7, 0, 9), 255), api.Open, 15},
	} {
		n := New(false)
		mustDo(t, n, ticks(7))
		// The draw has it that it is the second of three addresses, and the fifth of six blocks.
		wantReply(t, "out", n.Do(outDraw(c.p, -2)), api.Reply{
			Frame: frameOf(changed(c.p, 0, out1, 1056, 1)),
			Log:   templated(message(0, taken(7, 7, 1, 4))),
		})
		m := api.Map{Proto: c.p.Proto, S: 7, In: c.p.Sport, A: 1, Port: 1056}
		wantFlows(t, "out", n, api.Flow{Map: m, Remote: c.p.To, Rport: c.p.Dport, State: c.state, Due: c.due})
		want := api.Table{Maps: []api.Map{m}}
		want.Pool.Owner[1][4], want.Home[7] = 8, 2
		if got := n.Table(); !sameTable(got, want) {
			t.Errorf("table %v, not %v", got, want)
		}
	}
}

func TestOutOfEachSubscriber(t *testing.T) {
	n := New(false)
	for s := range 8 {
		mustDo(t, n, outDraw(udp(in0+s, 5, 9, 6), s))
		if f := n.Flows()[s]; f.Map.S != s || f.Map.A != s%3 {
			t.Errorf("subscriber %d: %v", s, f)
		}
	}
}

// Whatever of a flow's five numbers is another one, that is another flow.
func TestOutFlowsApart(t *testing.T) {
	n := New(false)
	mustDo(t, n, outAct(udp(in0, 5, 9, 6)))
	wantOut(t, "other Rport", n, outAct(udp(in0, 5, 9, 7)), out0, 1024)
	wantOut(t, "other Remote", n, outAct(udp(in0, 5, 10, 6)), out0, 1024)
	wantOut(t, "other In", n, outAct(udp(in0, 6, 9, 6)), out0, 1025)
	wantOut(t, "other protocol", n, outAct(tcp(in0, 5, 9, 6, api.Syn)), out0, 1024)
	wantOut(t, "other protocol", n, outAct(asking(in0, 5, 9)), out0, 1024)
	r := n.Do(outAct(udp(in1, 5, 9, 6)))
	wantReply(t, "other subscriber", r, api.Reply{Frame: frameOf(withTtl(udp(out0, 1032, 9, 6), 63)), Log: message(1, taken(0, 1, 0, 1))})
	if got := n.Flows(); len(got) != 7 || len(n.Table().Maps) != 5 {
		t.Errorf("flows %v", got)
	}
}

func TestOutGoesOn(t *testing.T) {
	n := New(false)
	mustDo(t, n, outAct(udp(in0, 5, 9, 6)), outAct(asking(in0, 5, 9)), ticks(3))
	wantOut(t, "Udp", n, outDraw(udp(in0, 5, 9, 6), 5), out0, 1024)
	wantOut(t, "Ping", n, outDraw(asking(in0, 5, 9), 5), out0, 1024)
	ofPing := api.Flow{Map: api.Map{Proto: api.Ping, In: 5, Port: 1024}, Remote: 9, State: api.Open, Due: 11}
	ofUdp := someFlow
	ofUdp.Due = 23
	wantFlows(t, "refreshed", n, ofUdp, ofPing)
}

func TestOutGoesOnWithTcp(t *testing.T) {
	n := New(false)
	f := api.Flow{Map: api.Map{Proto: api.Tcp, In: 5, Port: 1024}, Remote: 9, Rport: 6, State: api.Opening, Due: 4}
	mustDo(t, n, outAct(tcp(in0, 5, 9, 6, api.Syn)), ticks(1))
	for _, c := range []struct {
		flags, state, due int
	}{
		{api.Ack, api.Opening, 4},
		{api.Syn | api.Ack, api.Opening, 5},
		{api.Fin, api.Opening, 5},
		{api.Rst, api.Closed, 7},
		{api.Rst, api.Closed, 7},
		{api.Syn, api.Closed, 7},
	} {
		wantOut(t, "Tcp", n, outAct(tcp(in0, 5, 9, 6, c.flags)), out0, 1024)
		f.State, f.Due = c.state, c.due
		wantFlows(t, "Tcp", n, f)
	}
}

func TestOutEndsAnOpenFlow(t *testing.T) {
	n := New(false)
	mustDo(t, n, outAct(tcp(in0, 5, 9, 6, api.Syn)), inAct(tcp(9, 6, out0, 1024, api.Syn|api.Ack)), ticks(2))
	f := api.Flow{Map: api.Map{Proto: api.Tcp, In: 5, Port: 1024}, Remote: 9, Rport: 6, State: api.Open, Due: 60}
	wantFlows(t, "open", n, f)
	wantOut(t, "goes on", n, outAct(tcp(in0, 5, 9, 6, api.Ack)), out0, 1024)
	f.Due = 62
	wantFlows(t, "goes on", n, f)
	wantOut(t, "ends", n, outAct(tcp(in0, 5, 9, 6, api.Fin)), out0, 1024)
	f.State, f.Side, f.Due = api.Closing, 0, 8
	wantFlows(t, "ends", n, f)
	wantOut(t, "ends twice", n, outAct(tcp(in0, 5, 9, 6, api.Fin)), out0, 1024)
	wantFlows(t, "ends twice", n, f)
	mustDo(t, n, inAct(tcp(9, 6, out0, 1024, api.Fin)))
	f.State = api.Closed
	wantFlows(t, "both have ended", n, f)
}

func TestOutTakesASecondBlock(t *testing.T) {
	n := New(false)
	mustDo(t, n, outAct(udp(in0, 5, 9, 6)))
	for k := range 7 {
		wantOut(t, "first block", n, outAct(udp(in0, 6+k, 9, 6)), out0, 1025+k)
	}
	mustDo(t, n, ticks(2))
	r := n.Do(outDraw(udp(in0, 20, 9, 6), 4))
	wantReply(t, "second block", r, api.Reply{Frame: frameOf(withTtl(udp(out0, 1064, 9, 6), 63)), Log: message(1, taken(2, 0, 0, 5))})
}

func TestOutParsesError(t *testing.T) {
	for _, p := range []api.Packet{udp(in0, 5, 9, 6), udp(9, 5, 9, 6), udp(in0, 5, out0, 6)} {
		for e, f := range badFrames(t, p) {
			n := New(true)
			mustDo(t, n, outAct(udp(in0, 5, 9, 6)))
			wantNothing(t, "bad", n, api.Act{Kind: api.ActOut, Frame: f}, e)
		}
	}
	wantNothing(t, "empty", New(false), api.Act{Kind: api.ActOut}, api.ErrForm)
}

func TestOutFromNobody(t *testing.T) {
	n := New(true)
	for _, from := range []int{10 << 24, 10<<24 + 9, 10<<24 + 254, 10<<24 - 1, 11<<24 + 1, 0, 9, out0, 1<<32 - 1} {
		wantNothing(t, "Udp", n, outAct(udp(from, 5, 9, 6)), api.ErrNone)
		wantNothing(t, "Ping that answers, Ttl 1", n, outAct(withTtl(answering(from, 9, 5), 1)), api.ErrNone)
		wantNothing(t, "Tcp that does not begin", n, outAct(tcp(from, 5, 9, 6, api.Ack)), api.ErrNone)
	}
}

func TestOutPingThatAnswers(t *testing.T) {
	n := New(true)
	mustDo(t, n, outAct(asking(in0, 0, 9)))
	wantNothing(t, "answers", n, outAct(answering(in0, 9, 0)), api.ErrKind)
	wantNothing(t, "answers", n, outAct(answering(in0, 9, 5)), api.ErrKind)
	wantNothing(t, "answers, Ttl 1", n, outAct(withTtl(answering(in0, 9, 0), 1)), api.ErrKind)
}

func TestOutDead(t *testing.T) {
	n := New(true)
	mustDo(t, n, outAct(udp(in0, 5, 9, 6)), outAct(tcp(in0, 5, 9, 6, api.Syn)), ticks(1))
	for _, p := range []api.Packet{udp(in0, 5, 9, 6), udp(in0, 6, 9, 6), udp(in0, 5, out0, 1024), asking(in0, 5, 9), tcp(in0, 5, 9, 6, api.Rst), tcp(in0, 7, 9, 6, api.Ack)} {
		wantNothing(t, "Ttl 1", n, outAct(withTtl(p, 1)), api.ErrDead)
	}
	wantOut(t, "Ttl 2", n, outAct(withTtl(udp(in0, 5, 9, 6), 2)), out0, 1024)
	// Of what is dead nothing is refused, whatever else is wrong.
	fill(t, n)
	wantNothing(t, "Ttl 1, full", n, outAct(withTtl(udp(in0, 6, 9, 6), 1)), api.ErrDead)
	wantTold(t, "full", n, udp(in0, 6, 9, 6), api.ErrFull, 4)
}

func TestOutThatDoesNotBegin(t *testing.T) {
	for flags := range 64 {
		n := New(true)
		mustDo(t, n, outAct(udp(in0, 5, 9, 6)))
		a := outAct(tcp(in0, 5, 9, 6, flags))
		if flags&api.Syn != 0 && flags&(api.Fin|api.Rst|api.Ack) == 0 {
			wantOut(t, "begins", n, a, out0, 1024)
		} else {
			wantNothing(t, "does not begin", n, a, api.ErrFilter)
		}
	}
	n := New(true)
	fill(t, n)
	mustDo(t, n, drain(0), drain(1), drain(2))
	wantNothing(t, "does not begin, full", n, outAct(tcp(in0, 5, 9, 6, api.Ack)), api.ErrFilter)
	wantNothing(t, "does not begin, back in", n, outAct(tcp(in0, 5, out0, 1024, api.Ack)), api.ErrFilter)
	wantTold(t, "full", n, udp(in0, 6, 9, 6), api.ErrFull, 4)
}

func TestOutAtMostFlows(t *testing.T) {
	n := New(true)
	mustDo(t, n, outAct(tcp(in1, 5, 9, 6, api.Syn)), ticks(1))
	fill(t, n)
	wantOut(t, "goes on", n, outAct(udp(in0, 5, 90, 0)), out0, 1032)
	wantTold(t, "one more", n, udp(in0, 5, 10, 6), api.ErrFull, 4)
	wantNothing(t, "of another protocol", n, outAct(tcp(in0, 5, 9, 6, api.Syn)), api.ErrFull)
	wantNothing(t, "of somebody else", n, outAct(udp(in7, 5, 9, 6)), api.ErrFull)
	// Flows that ended make room for as many.
	mustDo(t, n, ticks(3))
	wantOut(t, "one has ended", n, outAct(udp(in0, 5, 10, 6)), out0, 1032)
	wantTold(t, "one more again", n, udp(in0, 5, 10, 7), api.ErrFull, 3)
}

// Where there are MaxFlows, Open is not asked at all.
func TestOutFlowsAheadOfMaps(t *testing.T) {
	n := New(false)
	fill(t, n)
	mustDo(t, n, drain(0), drain(1), drain(2))
	wantTold(t, "full, and all are drained", n, udp(in1, 5, 10, 6), api.ErrFull, 4)
}

func TestOutRefusedForMaps(t *testing.T) {
	n := New(false)
	for k := range 12 {
		mustDo(t, n, outAct(udp(in0, 5+k, 9, 6)))
	}
	wantTold(t, "MaxMaps", n, tcp(in0, 5, 9, 6, api.Syn), api.ErrFull, 4)
	wantOut(t, "a map that there is", n, outAct(udp(in0, 16, 10, 6)), out0, 1035)
	mustDo(t, n, outAct(udp(in1, 5, 9, 6)))
}

func TestOutRefusedForBlocks(t *testing.T) {
	n := New(false)
	for s := range 6 {
		mustDo(t, n, outAct(udp(in0+s, 5, 9, 6)))
	}
	for k := range 7 {
		mustDo(t, n, outAct(udp(in0, 6+k, 9, 6)))
	}
	wantTold(t, "no block is left at home", n, udp(in0, 20, 9, 6), api.ErrDown, 4)
	r := n.Do(outDraw(udp(in7, 5, 9, 6), 1))
	wantReply(t, "at another address", r, api.Reply{Frame: frameOf(withTtl(udp(out2, 1032, 9, 6), 63)), Log: message(6, taken(0, 7, 2, 1))})
}

func TestOutRefusedWhereAllIsDrained(t *testing.T) {
	for _, p := range []api.Packet{udp(in0, 5, 9, 6), asking(in7, 5, 9), tcp(in1, 5, 9, 6, api.Syn), udp(in0, 5, out0, 1024), withTtl(udp(in0, 5, 9, 6), 2)} {
		n := New(true)
		mustDo(t, n, drain(0), drain(1), drain(2))
		was := stateOf(n)
		wantTold(t, "drained", n, p, api.ErrDown, 4)
		if now := stateOf(n); !sameState(was, now) {
			t.Errorf("what was refused made %v of %v", now, was)
		}
	}
}

// P8.4

// neighbours has subscriber 0's port 5 of Udp at the first address, port 1024, and subscriber 1's at the second one, port 1032; it is 1.
func neighbours(t *testing.T, loose bool) *Nat {
	t.Helper()
	n := New(loose)
	mustDo(t, n, outDraw(udp(in0, 5, 9, 6), 0), outDraw(udp(in1, 5, 9, 6), 1), ticks(1))
	return n
}

// onward is a flow of Udp, of one of the neighbours' maps.
func onward(s, remote, rport, due int) api.Flow {
	m := []api.Map{{Proto: api.Udp, S: 0, In: 5, A: 0, Port: 1024}, {Proto: api.Udp, S: 1, In: 5, A: 1, Port: 1032}}[s]
	return api.Flow{Map: m, Remote: remote, Rport: rport, State: api.Open, Due: due}
}

func TestBackIn(t *testing.T) {
	n := neighbours(t, true)
	p := udp(in1, 5, out0, 1024)
	back := api.Reply{Frame: frameOf(withTtl(udp(out1, 1032, in0, 5), 62)), Inner: true}
	wantReply(t, "begins on both sides", n.Do(outAct(p)), back)
	wantFlows(t, "begins on both sides", n, onward(0, 9, 6, 20), onward(1, 9, 6, 20), onward(1, out0, 1024, 21), onward(0, out1, 1032, 21))
	mustDo(t, n, ticks(1))
	wantReply(t, "goes on", n.Do(outAct(p)), back)
	// Inward it is not refreshed.
	wantFlows(t, "goes on", n, onward(0, 9, 6, 20), onward(1, 9, 6, 20), onward(1, out0, 1024, 22), onward(0, out1, 1032, 21))
	mustDo(t, n, ticks(1))
	wantReply(t, "is answered", n.Do(outAct(udp(in0, 5, out1, 1032))), api.Reply{Frame: frameOf(withTtl(udp(out0, 1024, in1, 5), 62)), Inner: true})
	wantFlows(t, "is answered", n, onward(0, 9, 6, 20), onward(1, 9, 6, 20), onward(1, out0, 1024, 22), onward(0, out1, 1032, 23))
}

func TestBackInOnlyWhereThereIsAnAddress(t *testing.T) {
	n := neighbours(t, true)
	for _, to := range []int{out0 - 1, out2 + 1} {
		wantOut(t, "no address of the road", n, outAct(udp(in0, 5, to, 1024)), out0, 1024)
	}
	for _, to := range []int{in0, in1, 10<<24 + 254} {
		wantOut(t, "an address inside", n, outAct(udp(in0, 5, to, 5)), out0, 1024)
	}
	for _, to := range []int{out0, out1, out2} {
		if r := n.Do(outAct(udp(in0, 5, to, 1071))); r != (api.Reply{Code: api.ErrNone}) {
			t.Errorf("to %d: %s", to, reply(r))
		}
	}
}

func TestBackInToOneself(t *testing.T) {
	n := New(false)
	wantReply(t, "to its own port", n.Do(outAct(udp(in0, 5, out0, 1024))), api.Reply{
		Frame: frameOf(withTtl(udp(out0, 1024, in0, 5), 62)),
		Inner: true,
		Log:   templated(message(0, taken(0, 0, 0, 0))),
	})
	wantFlows(t, "to its own port", n, onward(0, out0, 1024, 20))
}

// wantLost is a frame that does not come back in: what was done on its way out stays done.
func wantLost(t *testing.T, what string, n *Nat, p api.Packet, e api.Errno) {
	t.Helper()
	flows, maps := len(n.Flows()), len(n.Table().Maps)
	r := n.Do(outDraw(p, 2))
	wantReply(t, what, r, api.Reply{Code: e, Log: message(2, taken(1, 7, 2, 2))})
	if f := n.Flows(); len(f) != flows+1 || f[flows].Remote != p.To || f[flows].Map.S != 7 {
		t.Errorf("%s: flows %v", what, f)
	}
	if m := n.Table().Maps; len(m) != maps+1 || m[maps].Port != 1040 {
		t.Errorf("%s: maps %v", what, m)
	}
}

func TestBackInErrors(t *testing.T) {
	wantLost(t, "a Ping asks", neighbours(t, true), asking(in7, 5, out0), api.ErrKind)
	wantLost(t, "a Ping asks, Ttl 2", neighbours(t, true), withTtl(asking(in7, 5, out0), 2), api.ErrKind)
	wantLost(t, "Ttl 2", neighbours(t, true), withTtl(udp(in7, 5, out0, 1024), 2), api.ErrDead)
	wantLost(t, "Ttl 2, no map", neighbours(t, true), withTtl(udp(in7, 5, out0, 1025), 2), api.ErrDead)
	wantLost(t, "no map of that port", neighbours(t, true), udp(in7, 5, out0, 1025), api.ErrNone)
	wantLost(t, "no map of that address", neighbours(t, true), udp(in7, 5, out2, 1024), api.ErrNone)
	wantLost(t, "no map of that protocol", neighbours(t, true), tcp(in7, 5, out0, 1024, api.Syn), api.ErrNone)
	wantLost(t, "not loose", neighbours(t, false), udp(in7, 5, out0, 1024), api.ErrFilter)
	n := neighbours(t, true)
	mustDo(t, n, outAct(tcp(in0, 5, 9, 6, api.Syn)))
	wantLost(t, "not Udp", n, tcp(in7, 5, out0, 1024, api.Syn), api.ErrFilter)
}

func TestBackInOnTheLastTtl(t *testing.T) {
	n := neighbours(t, true)
	r := n.Do(outAct(withTtl(udp(in1, 5, out0, 1024), 3)))
	wantReply(t, "Ttl 3", r, api.Reply{Frame: frameOf(withTtl(udp(out1, 1032, in0, 5), 1)), Inner: true})
}

// The first flow takes the last place, so that there is none for the second.
func TestBackInAtMostFlows(t *testing.T) {
	n := neighbours(t, true)
	for i := range 45 {
		mustDo(t, n, outAct(udp(in0, 5, 90, i)))
	}
	wantReply(t, "the last place", n.Do(outAct(udp(in1, 5, out0, 1024))), api.Reply{Code: api.ErrFilter})
	if got := len(n.Flows()); got != 48 {
		t.Errorf("%d flows", got)
	}
	wantTold(t, "no place", n, udp(in1, 5, out0, 1025), api.ErrFull, 4)
}

func TestBackInOfTcp(t *testing.T) {
	n := New(false)
	there, here := tcp(in0, 5, out1, 1032, api.Syn), tcp(in1, 5, out0, 1024, api.Syn)
	if r := n.Do(outDraw(there, 0)); r.Code != api.ErrNone {
		t.Fatalf("nobody is there yet: %d", r.Code)
	}
	mustDo(t, n, ticks(1))
	wantReply(t, "both begin", n.Do(outDraw(here, 1)), api.Reply{
		Frame: frameOf(withTtl(tcp(out1, 1032, in0, 5, api.Syn), 62)),
		Inner: true,
		Log:   message(1, taken(1, 1, 1, 1)),
	})
	first := api.Flow{Map: api.Map{Proto: api.Tcp, S: 0, In: 5, A: 0, Port: 1024}, Remote: out1, Rport: 1032, State: api.Opening, Due: 4}
	second := api.Flow{Map: api.Map{Proto: api.Tcp, S: 1, In: 5, A: 1, Port: 1032}, Remote: out0, Rport: 1024, State: api.Opening, Due: 5}
	wantFlows(t, "both begin", n, first, second)
	there.Flags |= api.Ack
	wantReply(t, "it is answered", n.Do(outAct(there)), api.Reply{Frame: frameOf(withTtl(tcp(out0, 1024, in1, 5, api.Syn|api.Ack), 62)), Inner: true})
	first.Due, second.State, second.Due = 5, api.Open, 61
	wantFlows(t, "it is answered", n, first, second)
}

// What is refused does not come back in, though it was sent to an address outside.
func TestRefusedDoesNotComeBackIn(t *testing.T) {
	n := neighbours(t, true)
	fill(t, n)
	wantTold(t, "full", n, udp(in1, 5, out0, 1024), api.ErrFull, 4)
}
