package nat

import (
	"math"
	"slices"
	"testing"

	"rentroll/api"
	"rentroll/record"
)

// P8.6

func TestTickRange(t *testing.T) {
	const half = 1 << 39
	n := New(false)
	mustDo(t, n, outAct(udp(in0, 5, 9, 6)))
	for _, k := range []int{0, -1, -half, math.MinInt, half + 1, 1 << 40, math.MaxInt} {
		wantNothing(t, "ticks", n, ticks(k), api.ErrRange)
	}
	mustDo(t, n, ticks(5))
	for _, k := range []int{0, -1, -5, half - 4, half, math.MaxInt - 4, math.MaxInt} {
		wantNothing(t, "ticks at 5", n, ticks(k), api.ErrRange)
	}
	wantReply(t, "up to half", n.Do(ticks(half-5)), api.Reply{Log: message(1, given(half, 0, 0, 0))})
	if got := stateOf(n); !sameState(got, state{now: half}) {
		t.Errorf("at half of all time: %v", got)
	}
	wantNothing(t, "beyond", n, ticks(1), api.ErrRange)
	// What is begun then is due later than it will ever be.
	mustDo(t, n, outAct(udp(in0, 5, 9, 6)))
	f := someFlow
	f.Due = half + 20
	wantFlows(t, "at half of all time", n, f)
	wantReply(t, "all of it", New(false).Do(ticks(half)), api.Reply{})
}

func TestTickByTick(t *testing.T) {
	n := New(false)
	for now := range 100 {
		if n.Now() != now {
			t.Fatalf("Now = %d, not %d", n.Now(), now)
		}
		wantReply(t, "tick", n.Do(ticks(1)), api.Reply{})
	}
}

// Of each kind of flow: how long it lasts, to the tick.
func TestFlowsLast(t *testing.T) {
	syn, opened := outAct(tcp(in0, 5, 9, 6, api.Syn)), inAct(tcp(9, 6, out0, 1024, api.Syn|api.Ack))
	for _, c := range []struct {
		what string
		acts []api.Act
		life int
	}{
		{"Udp", []api.Act{outAct(udp(in0, 5, 9, 6))}, 20},
		{"Udp from outside", []api.Act{outAct(udp(in0, 5, 9, 6)), inAct(udp(9, 7, out0, 1024))}, 20},
		{"Ping", []api.Act{outAct(asking(in0, 5, 9))}, 8},
		{"Opening", []api.Act{syn}, 4},
		{"Open", []api.Act{syn, opened}, 60},
		{"Closing", []api.Act{syn, opened, outAct(tcp(in0, 5, 9, 6, api.Fin))}, 6},
		{"Closed", []api.Act{syn, outAct(tcp(in0, 5, 9, 6, api.Rst))}, 6},
	} {
		for _, early := range []bool{true, false} {
			n := New(false)
			mustDo(t, n, ticks(3))
			mustDo(t, n, c.acts...)
			flows := n.Flows()
			want := api.Reply{Log: message(1, given(3+c.life, 0, 0, 0))}
			if early {
				wantReply(t, c.what, n.Do(ticks(c.life-1)), api.Reply{})
				wantFlows(t, c.what, n, flows...)
				wantReply(t, c.what, n.Do(ticks(1)), want)
			} else {
				wantReply(t, c.what, n.Do(ticks(c.life)), want)
			}
			if got := stateOf(n); !sameState(got, state{now: 3 + c.life}) {
				t.Errorf("%s: %v is left", c.what, got)
			}
		}
	}
}

func TestRefreshedFlowsLastLonger(t *testing.T) {
	n := New(false)
	mustDo(t, n, outAct(udp(in0, 5, 9, 6)))
	for range 10 {
		wantReply(t, "tick", n.Do(ticks(19)), api.Reply{})
		mustDo(t, n, outAct(udp(in0, 5, 9, 6)))
	}
	wantReply(t, "not refreshed", n.Do(ticks(20)), api.Reply{Log: message(1, given(210, 0, 0, 0))})
}

// A flow that ends sooner than it would have is not held by its old time.
func TestShortenedFlowsLastLess(t *testing.T) {
	n := New(false)
	mustDo(t, n, outAct(tcp(in0, 5, 9, 6, api.Syn)), inAct(tcp(9, 6, out0, 1024, api.Syn|api.Ack)), ticks(1), inAct(tcp(9, 6, out0, 1024, api.Rst)))
	wantReply(t, "due at 7", n.Do(ticks(6)), api.Reply{Log: message(1, given(7, 0, 0, 0))})
	wantReply(t, "not once more", n.Do(ticks(100)), api.Reply{})
}

func TestFlowsEndByDue(t *testing.T) {
	n := New(false)
	// Their Dues are 60, 20, 8, 4: the other way round than they began.
	mustDo(t, n, outAct(tcp(in0, 5, 9, 6, api.Syn)), inAct(tcp(9, 6, out0, 1024, api.Syn|api.Ack)))
	mustDo(t, n, outAct(udp(in1, 5, 9, 6)), outAct(asking(in0+2, 5, 9)), outAct(tcp(in0+3, 5, 9, 6, api.Syn)))
	wantReply(t, "by Due", n.Do(ticks(70)), api.Reply{Log: message(4, given(70, 3, 0, 3), given(70, 2, 0, 2), given(70, 1, 0, 1), given(70, 0, 0, 0))})
}

func TestFlowsOfOneDueEndAsTheyBegan(t *testing.T) {
	n := New(false)
	mustDo(t, n, outAct(udp(in7, 5, 9, 6)), outAct(udp(in0, 5, 9, 6)), ticks(1), outAct(udp(in1, 5, 9, 6)))
	// They are refreshed in another order than they began.
	mustDo(t, n, outAct(udp(in0, 5, 9, 6)), outAct(udp(in7, 5, 9, 6)))
	wantReply(t, "as they began", n.Do(ticks(20)), api.Reply{Log: message(3, given(21, 7, 0, 0), given(21, 0, 0, 1), given(21, 1, 0, 2))})
}

func TestFlowsEndByDueAheadOfOrder(t *testing.T) {
	n := New(false)
	mustDo(t, n, outAct(udp(in0, 5, 9, 6)), outAct(udp(in1, 5, 9, 6)), ticks(1), outAct(udp(in0, 5, 9, 6)))
	wantReply(t, "the refreshed one last", n.Do(ticks(30)), api.Reply{Log: message(2, given(31, 1, 0, 1), given(31, 0, 0, 0))})
}

// A map is closed with the last of its flows, so other blocks may be given back ahead of its own.
func TestMapsCloseWithTheirLastFlow(t *testing.T) {
	n := New(false)
	mustDo(t, n, outAct(udp(in0, 5, 9, 6)), outAct(udp(in1, 5, 9, 6)), outAct(udp(in0, 5, 9, 7)))
	wantReply(t, "at one tick", n.Do(ticks(20)), api.Reply{Log: message(2, given(20, 1, 0, 1), given(20, 0, 0, 0))})
	mustDo(t, n, outAct(udp(in0, 5, 9, 6)), ticks(5), outAct(udp(in0, 5, 9, 7)))
	table := n.Table()
	wantReply(t, "one is left", n.Do(ticks(15)), api.Reply{})
	f := someFlow
	f.Rport, f.Due = 7, 45
	wantFlows(t, "one is left", n, f)
	if got := n.Table(); !sameTable(got, table) {
		t.Errorf("one is left: table %v, not %v", got, table)
	}
	wantReply(t, "none is left", n.Do(ticks(5)), api.Reply{Log: message(5, given(45, 0, 0, 0))})
}

func TestBlocksAreGivenBackWithTheirLastMap(t *testing.T) {
	n := New(false)
	mustDo(t, n, outAct(asking(in0, 5, 9)), outAct(udp(in0, 6, 9, 6)), outAct(tcp(in0, 7, 9, 6, api.Syn)))
	wantReply(t, "the block has maps still", n.Do(ticks(8)), api.Reply{})
	m := api.Map{Proto: api.Udp, S: 0, In: 6, A: 0, Port: 1024}
	want := api.Table{Maps: []api.Map{m}}
	want.Pool.Owner[0][0], want.Home[0] = 1, 1
	if got := n.Table(); !sameTable(got, want) {
		t.Errorf("table %v, not %v", got, want)
	}
	wantReply(t, "the last map", n.Do(ticks(12)), api.Reply{Log: message(1, given(20, 0, 0, 0))})
}

func TestPortsAreFreeAgain(t *testing.T) {
	n := New(false)
	mustDo(t, n, outAct(udp(in0, 5, 9, 6)), ticks(5), outAct(udp(in0, 6, 9, 6)), ticks(15))
	wantOut(t, "the least port again", n, outAct(udp(in0, 7, 9, 6)), out0, 1024)
	mustDo(t, n, ticks(20))
	r := n.Do(outDraw(udp(in1, 5, 9, 6), 0))
	wantReply(t, "somebody else's block", r, api.Reply{Frame: frameOf(withTtl(udp(out0, 1024, 9, 6), 63)), Log: message(2, taken(40, 1, 0, 0))})
}

func TestTicksLetRefusalsBeTold(t *testing.T) {
	refused := udp(in0, 5, 9, 6)
	for _, c := range []struct{ told, ticks, left int }{
		{4, 1, 1}, {4, 2, 2}, {4, 3, 3}, {4, 4, 4}, {4, 5, 4}, {4, 1 << 38, 4},
		{1, 1, 4}, {1, 2, 4}, {2, 1, 3}, {3, 2, 3}, {0, 1, 4}, {0, 4, 4}, {9, 1, 1},
	} {
		n := New(false)
		mustDo(t, n, drain(0), drain(1), drain(2))
		for range c.told {
			n.Do(outAct(refused))
		}
		mustDo(t, n, ticks(c.ticks))
		wantTold(t, "behind ticks", n, refused, api.ErrDown, c.left)
	}
	n := New(false)
	mustDo(t, n, drain(0), drain(1), drain(2), ticks(1))
	wantTold(t, "all", n, refused, api.ErrDown, 4)
	for _, k := range []int{0, -1, math.MinInt, 1 << 39, math.MaxInt} {
		wantNothing(t, "no ticks", n, ticks(k), api.ErrRange)
	}
	wantTold(t, "no ticks", n, refused, api.ErrDown, 0)
	mustDo(t, n, ticks(1), ticks(1))
	wantTold(t, "two ticks", n, refused, api.ErrDown, 2)
}

// P8.7

func TestLog(t *testing.T) {
	n := New(true)
	log := ""
	var want []api.Event
	do := func(what string, a api.Act, text string, events ...api.Event) {
		t.Helper()
		r := n.Do(a)
		if r.Log != text {
			t.Errorf("%s: log %x, not %x", what, r.Log, text)
		}
		log += r.Log
		want = append(want, events...)
		got, e := record.Read(log)
		if e != api.OK || !slices.Equal(got, want) {
			t.Errorf("%s: Read = %v, %d, not %v", what, got, e, want)
		}
		if p, e := record.Owners(got); e != api.OK || p.Owner != n.Table().Pool.Owner {
			t.Errorf("%s: Owners = %v, %d, not %v", what, p, e, n.Table().Pool)
		}
	}
	do("nothing yet", ticks(3), "")
	do("nothing of what fails", outAct(tcp(in0, 5, 9, 6, api.Ack)), "")
	first := taken(3, 0, 0, 0)
	do("the first", outAct(udp(in0, 5, 9, 6)), templated(message(0, first)), first)
	do("no block is taken", outAct(udp(in0, 6, 9, 6)), "")
	do("it goes on", outAct(udp(in0, 5, 9, 6)), "")
	second := taken(3, 1, 0, 1)
	do("what is lost, too", outAct(udp(in1, 5, out0, 1071)), message(1, second), second)
	do("in", inAct(udp(9, 6, out0, 1024)), "")
	do("drained", drain(2), "")
	both := []api.Event{given(23, 0, 0, 0), given(23, 1, 0, 1)}
	do("two at once", ticks(20), message(2, both...), both...)
	third := taken(23, 7, 1, 1)
	do("behind four", outDraw(udp(in7, 5, 9, 6), 1), message(4, third), third)
	do("not due", ticks(19), "")
	last := given(43, 7, 1, 1)
	do("due", ticks(1), message(5, last), last)
	do("undrained", undrain(2), "")
}

// Five subscribers have two blocks each, which are all given back at one tick.
func TestLogOfManyAtOnce(t *testing.T) {
	n := New(false)
	log := ""
	for k := range 9 {
		for s := range 5 {
			log += n.Do(outDraw(udp(in0+s, 5+k, 9, 6), s)).Log
		}
	}
	if got := len(n.Flows()); got != 45 {
		t.Fatalf("%d flows", got)
	}
	r := n.Do(ticks(20))
	events, e := record.Read(log + r.Log)
	if e != api.OK || len(events) != 20 {
		t.Fatalf("%d events, %d", len(events), e)
	}
	for i, at := range events {
		if at.Free != (i >= 10) || at.S != i%5 {
			t.Errorf("event %d: %v", i, at)
		}
	}
	if p, e := record.Owners(events); e != api.OK || p != (api.Pool{}) {
		t.Errorf("Owners = %v, %d", p, e)
	}
}
