package nat

import (
	"testing"

	"rentroll/api"
	"rentroll/wire"
)

// wantIn is a frame that comes in to an address and port.
func wantIn(t *testing.T, what string, n *Nat, p api.Packet, addr, port int) {
	t.Helper()
	wantReply(t, what, n.Do(inAct(p)), api.Reply{Frame: frameOf(changed(p, 1, addr, port, 1)), Inner: true})
}

// answered has flows of each protocol to 9 (port 6), from port 5 of subscriber 7 at the last address, port 1040; it is 1.
func answered(t *testing.T, loose bool) (*Nat, [3]api.Flow) {
	t.Helper()
	n := New(loose)
	mustDo(t, n, outDraw(udp(in7, 5, 9, 6), 2), outAct(tcp(in7, 5, 9, 6, api.Syn)), outAct(asking(in7, 5, 9)), ticks(1))
	flows := [3]api.Flow{
		{Map: api.Map{Proto: api.Udp, S: 7, In: 5, A: 2, Port: 1040}, Remote: 9, Rport: 6, State: api.Open, Due: 20},
		{Map: api.Map{Proto: api.Tcp, S: 7, In: 5, A: 2, Port: 1040}, Remote: 9, Rport: 6, State: api.Opening, Due: 4},
		{Map: api.Map{Proto: api.Ping, S: 7, In: 5, A: 2, Port: 1040}, Remote: 9, State: api.Open, Due: 8},
	}
	wantFlows(t, "answered", n, flows[:]...)
	return n, flows
}

// P8.5

func TestInGoesOn(t *testing.T) {
	for _, loose := range []bool{false, true} {
		n, f := answered(t, loose)
		wantIn(t, "Udp", n, udp(9, 6, out2, 1040), in7, 5)
		wantFlows(t, "Udp is not refreshed", n, f[:]...)
		wantIn(t, "Tcp", n, tcp(9, 6, out2, 1040, api.Syn|api.Ack), in7, 5)
		f[1].State, f[1].Due = api.Open, 61
		wantFlows(t, "Tcp is open", n, f[:]...)
		wantIn(t, "Ping", n, answering(9, out2, 1040), in7, 5)
		f[2].Due = 9
		wantFlows(t, "Ping is refreshed", n, f[:]...)
		wantIn(t, "Tcp ends", n, tcp(9, 6, out2, 1040, api.Fin), in7, 5)
		f[1].State, f[1].Side, f[1].Due = api.Closing, 1, 7
		wantFlows(t, "Tcp ends", n, f[:]...)
		wantIn(t, "Tcp ends twice", n, tcp(9, 6, out2, 1040, api.Fin), in7, 5)
		wantFlows(t, "Tcp ends twice", n, f[:]...)
		wantIn(t, "Tcp breaks", n, tcp(9, 6, out2, 1040, api.Rst), in7, 5)
		f[1].State = api.Closed
		wantFlows(t, "Tcp breaks", n, f[:]...)
	}
}

func TestInToOtherStatesOfTcp(t *testing.T) {
	n, f := answered(t, false)
	// They go in, though they mean nothing to the flow.
	for _, flags := range []int{0, api.Ack, api.Syn, api.Fin, api.Fin | api.Ack, 63 &^ (api.Rst | api.Syn)} {
		wantIn(t, "Opening", n, tcp(9, 6, out2, 1040, flags), in7, 5)
		wantFlows(t, "Opening", n, f[:]...)
	}
}

func TestInParsesError(t *testing.T) {
	n, _ := answered(t, true)
	for _, p := range []api.Packet{udp(9, 6, out2, 1040), udp(9, 6, 9, 1040), udp(9, 6, out2, 1041), udp(10, 6, out2, 1040)} {
		for e, f := range badFrames(t, p) {
			wantNothing(t, "bad", n, api.Act{Kind: api.ActIn, Frame: f}, e)
		}
	}
	wantNothing(t, "empty", n, api.Act{Kind: api.ActIn}, api.ErrForm)
}

func TestInToNoAddress(t *testing.T) {
	n, _ := answered(t, true)
	for _, to := range []int{out0 - 1, out2 + 1, 0, 9, in0, in7, 10<<24 + 254, 1<<32 - 1} {
		wantNothing(t, "Udp", n, inAct(udp(9, 6, to, 1040)), api.ErrNone)
		wantNothing(t, "a Ping that asks, Ttl 1", n, inAct(withTtl(asking(9, 1040, to), 1)), api.ErrNone)
		wantNothing(t, "Ttl 1", n, inAct(withTtl(udp(9, 6, to, 1040), 1)), api.ErrNone)
	}
}

func TestInPingThatAsks(t *testing.T) {
	n, _ := answered(t, true)
	wantNothing(t, "asks", n, inAct(asking(9, 1040, out2)), api.ErrKind)
	wantNothing(t, "asks, Ttl 1", n, inAct(withTtl(asking(9, 1040, out2), 1)), api.ErrKind)
	wantNothing(t, "asks where nobody is", n, inAct(asking(9, 0, out0)), api.ErrKind)
}

func TestInDead(t *testing.T) {
	n, _ := answered(t, true)
	for _, p := range []api.Packet{udp(9, 6, out2, 1040), udp(10, 6, out2, 1040), udp(9, 6, out2, 1041), tcp(9, 6, out2, 1040, api.Rst), answering(9, out2, 1040)} {
		wantNothing(t, "Ttl 1", n, inAct(withTtl(p, 1)), api.ErrDead)
	}
	wantIn(t, "Ttl 2", n, withTtl(udp(9, 6, out2, 1040), 2), in7, 5)
}

func TestInToNoMap(t *testing.T) {
	for _, loose := range []bool{false, true} {
		n, _ := answered(t, loose)
		mustDo(t, n, outAct(tcp(in7, 6, 9, 6, api.Syn)))
		for _, port := range []int{0, 5, 1023, 1024, 1039, 1041, 1042, 1072, 65535} {
			wantNothing(t, "port", n, inAct(udp(9, 6, out2, port)), api.ErrNone)
			wantNothing(t, "identifier", n, inAct(answering(9, out2, port)), api.ErrNone)
		}
		wantNothing(t, "address", n, inAct(udp(9, 6, out0, 1040)), api.ErrNone)
		wantNothing(t, "address", n, inAct(udp(9, 6, out1, 1040)), api.ErrNone)
		wantIn(t, "a map of Tcp alone", n, tcp(9, 6, out2, 1041, api.Ack), in7, 6)
	}
}

func TestInFromOtherPort(t *testing.T) {
	for _, loose := range []bool{false, true} {
		n, f := answered(t, loose)
		wantIn(t, "Udp", n, udp(9, 7, out2, 1040), in7, 5)
		begun := f[0]
		begun.Rport, begun.Due = 7, 21
		wantFlows(t, "Udp begins", n, f[0], f[1], f[2], begun)
		for flags := range 64 {
			wantNothing(t, "Tcp", n, inAct(tcp(9, 7, out2, 1040, flags)), api.ErrFilter)
		}
		// From inside that flow goes on, and its Due is moved.
		mustDo(t, n, ticks(1))
		wantOut(t, "it goes on", n, outAct(udp(in7, 5, 9, 7)), out2, 1040)
		begun.Due = 22
		wantFlows(t, "it goes on", n, f[0], f[1], f[2], begun)
	}
}

func TestInFromSomebodyElse(t *testing.T) {
	n, f := answered(t, false)
	others := []api.Packet{udp(10, 6, out2, 1040), udp(8, 6, out2, 1040), udp(in7, 6, out2, 1040), udp(out2, 1040, out2, 1040)}
	for _, p := range others {
		wantNothing(t, "Udp", n, inAct(p), api.ErrFilter)
	}
	loose, _ := answered(t, true)
	want := f[:]
	for _, p := range others {
		wantIn(t, "loose", loose, p, in7, 5)
		begun := f[0]
		begun.Remote, begun.Rport, begun.Due = p.From, p.Sport, 21
		want = append(want, begun)
	}
	wantFlows(t, "loose", loose, want...)
	for _, n := range []*Nat{n, loose} {
		wantNothing(t, "Tcp", n, inAct(tcp(10, 6, out2, 1040, api.Syn)), api.ErrFilter)
		wantNothing(t, "Tcp", n, inAct(tcp(10, 6, out2, 1040, api.Syn|api.Ack)), api.ErrFilter)
		wantNothing(t, "Ping", n, inAct(answering(10, out2, 1040)), api.ErrFilter)
	}
}

// Who was sent to from one map is nobody to another one of the same subscriber.
func TestInKnowsWhomTheMapSentTo(t *testing.T) {
	n, _ := answered(t, false)
	mustDo(t, n, outAct(udp(in7, 6, 10, 6)), outAct(tcp(in7, 5, 11, 6, api.Syn)))
	wantNothing(t, "of another map", n, inAct(udp(10, 6, out2, 1040)), api.ErrFilter)
	wantNothing(t, "of another map", n, inAct(udp(9, 6, out2, 1041)), api.ErrFilter)
	wantNothing(t, "of another protocol", n, inAct(udp(11, 6, out2, 1040)), api.ErrFilter)
	wantIn(t, "of its own", n, udp(10, 7, out2, 1041), in7, 6)
}

// Who was sent to is known for as long as a flow is left.
func TestInForgets(t *testing.T) {
	n, _ := answered(t, false)
	mustDo(t, n, outAct(udp(in7, 5, 10, 6)), ticks(18), outAct(udp(in7, 5, 9, 6)), ticks(2))
	wantNothing(t, "its flow ended", n, inAct(udp(10, 6, out2, 1040)), api.ErrFilter)
	wantIn(t, "its flow goes on", n, udp(9, 8, out2, 1040), in7, 5)
	mustDo(t, n, ticks(60))
	wantNothing(t, "its map is closed", n, inAct(udp(9, 6, out2, 1040)), api.ErrNone)
}

func TestInAtMostFlows(t *testing.T) {
	for _, loose := range []bool{false, true} {
		n, f := answered(t, loose)
		for i := range 44 {
			mustDo(t, n, outAct(udp(in7, 5, 90, i)))
		}
		wantIn(t, "the last one", n, udp(9, 7, out2, 1040), in7, 5)
		wantNothing(t, "one more", n, inAct(udp(9, 8, out2, 1040)), api.ErrFilter)
		wantNothing(t, "one more", n, inAct(udp(10, 6, out2, 1040)), api.ErrFilter)
		wantIn(t, "one that goes on", n, udp(9, 6, out2, 1040), in7, 5)
		wantIn(t, "one that goes on", n, tcp(9, 6, out2, 1040, api.Rst), in7, 5)
		if got := n.Flows(); len(got) != 48 || got[0] != f[0] || got[1].State != api.Closed {
			t.Errorf("flows %v", got)
		}
		// Of what comes from outside nobody is told that it is not let through.
		wantTold(t, "refusals", n, udp(in7, 5, 90, 99), api.ErrFull, 4)
	}
}

func TestInKeepsTheRest(t *testing.T) {
	n, _ := answered(t, false)
	p := api.Packet{Proto: api.Tcp, From: 9, Sport: 6, To: out2, Dport: 1040, Ttl: 255, Id: 65535, Flags: 63, Seq: 1<<32 - 1, Ack: 1 << 31, Win: 65535, Body: string(make([]byte, 64))}
	r := n.Do(inAct(p))
	got, e := wire.Parse(r.Frame)
	if want := changed(p, 1, in7, 5, 1); got != want || e != api.OK || !r.Inner {
		t.Errorf("in: %v, %d, not %v", got, e, want)
	}
}
