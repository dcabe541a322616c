package track

import (
	"math"
	"slices"
	"testing"

	"rentroll/api"
)

// Bits of the flags, with the two that the document does not name.
const (
	fin = 1
	syn = 2
	rst = 4
	psh = 8
	ack = 16
	urg = 32
)

// The states by their numbers.
const (
	opening = 1
	open    = 2
	closing = 3
	closed  = 4
)

// Numbers that are no protocols, no states.
var (
	noProtocols = []int{0, 2, 5, 7, 16, 18, -1, -6, -17, 6 + 1<<32, 17 + 1<<32, math.MinInt, math.MaxInt}
	noStates    = []int{0, 5, -1, -2, 2 + 1<<32, math.MinInt, math.MaxInt}
)

// flowOf has something in each of its fields, so that one that is lost shows.
func flowOf(proto, state, side, due int) api.Flow {
	m := api.Map{Proto: proto, S: 3, In: 5000, A: 2, Port: 1033}
	return api.Flow{Map: m, Remote: 9, Rport: 60000, State: state, Side: side, Due: due}
}

// packetOf has something in each of its other fields: none of it counts.
func packetOf(proto, flags int) api.Packet {
	return api.Packet{Proto: proto, From: 9, Sport: 7, To: 8, Dport: 60000, Ttl: 5, Id: 4, Flags: flags, Seq: 11, Ack: 12, Win: 13, Body: "body"}
}

// wantNext holds Next against the three fields that may change; all others stay.
func wantNext(t *testing.T, f api.Flow, flags int, inward bool, now, state, side, due int) {
	t.Helper()
	want := f
	want.State, want.Side, want.Due = state, side, due
	if got := Next(f, packetOf(f.Map.Proto, flags), inward, now); got != want {
		t.Errorf("Next of %v, flags %d, inward %v, at %d: %v, want %v", f, flags, inward, now, got, want)
	}
}

// P6.1

func TestLife(t *testing.T) {
	for _, x := range []struct{ proto, state, want int }{
		{api.Ping, opening, 8}, {api.Ping, open, 8}, {api.Ping, closing, 8}, {api.Ping, closed, 8},
		{api.Udp, opening, 20}, {api.Udp, open, 20}, {api.Udp, closing, 20}, {api.Udp, closed, 20},
		{api.Tcp, opening, 4}, {api.Tcp, open, 60}, {api.Tcp, closing, 6}, {api.Tcp, closed, 6},
	} {
		if got := Life(x.proto, x.state); got != x.want {
			t.Errorf("Life(%d, %d) = %d, want %d", x.proto, x.state, got, x.want)
		}
	}
}

func TestLifeOfNoState(t *testing.T) {
	for _, state := range noStates {
		if Life(api.Ping, state) != 8 || Life(api.Udp, state) != 20 || Life(api.Tcp, state) != 6 {
			t.Errorf("state %d: %d, %d, %d", state, Life(api.Ping, state), Life(api.Udp, state), Life(api.Tcp, state))
		}
	}
}

func TestLifeOfNoProtocol(t *testing.T) {
	for _, proto := range noProtocols {
		if Life(proto, opening) != 4 || Life(proto, open) != 60 || Life(proto, closing) != 6 || Life(proto, closed) != 6 {
			t.Errorf("protocol %d is not by its state", proto)
		}
		for _, state := range noStates {
			if Life(proto, state) != 6 {
				t.Errorf("Life(%d, %d) = %d, want 6", proto, state, Life(proto, state))
			}
		}
	}
}

// P6.2

func TestBeginsUdp(t *testing.T) {
	for flags := range 64 {
		if !Begins(packetOf(api.Udp, flags)) {
			t.Errorf("Udp with flags %d does not begin", flags)
		}
	}
}

func TestBeginsPing(t *testing.T) {
	for flags := range 64 {
		if got := Begins(packetOf(api.Ping, flags)); got != (flags == 8) {
			t.Errorf("a Ping with flags %d: %v", flags, got)
		}
	}
}

func TestBeginsTcp(t *testing.T) {
	begin := []int{syn, syn | psh, syn | urg, syn | psh | urg}
	for flags := range 64 {
		if got := Begins(packetOf(api.Tcp, flags)); got != slices.Contains(begin, flags) {
			t.Errorf("Tcp with flags %d: %v", flags, got)
		}
	}
}

func TestBeginsTcpSynWithAnother(t *testing.T) {
	for _, other := range []int{fin, rst, ack, fin | rst, fin | ack, rst | ack, fin | rst | ack} {
		if Begins(api.Packet{Proto: api.Tcp, Flags: syn | other}) {
			t.Errorf("Syn together with %d begins", other)
		}
	}
}

func TestBeginsNoProtocol(t *testing.T) {
	for _, proto := range noProtocols {
		for flags := range 64 {
			if Begins(packetOf(proto, flags)) {
				t.Errorf("protocol %d, flags %d begins", proto, flags)
			}
		}
	}
}

func TestFirst(t *testing.T) {
	for flags := range 64 {
		if got := First(packetOf(api.Tcp, flags)); got != opening {
			t.Errorf("Tcp, flags %d: %d, want Opening", flags, got)
		}
		for _, proto := range append([]int{api.Ping, api.Udp}, noProtocols...) {
			if got := First(packetOf(proto, flags)); got != open {
				t.Errorf("protocol %d, flags %d: %d, want Open", proto, flags, got)
			}
		}
	}
}

// Nothing is promised of other Flags but that the call ends without a panic.
func TestFlagsOutOfBounds(t *testing.T) {
	for _, flags := range []int{-1, 64, 66, -64, math.MinInt, math.MaxInt} {
		for _, proto := range []int{api.Ping, api.Tcp, api.Udp, 0} {
			Begins(packetOf(proto, flags))
			First(packetOf(proto, flags))
			Next(flowOf(proto, open, 0, 5), packetOf(proto, flags), true, 3)
		}
	}
}

// P6.3

func TestNextUdp(t *testing.T) {
	for _, state := range append([]int{opening, open, closing, closed}, noStates...) {
		for flags := range 64 {
			f := flowOf(api.Udp, state, 1, 50)
			wantNext(t, f, flags, false, 3, state, 1, 23)
			wantNext(t, f, flags, true, 3, state, 1, 50)
		}
	}
}

func TestNextPing(t *testing.T) {
	for _, state := range append([]int{opening, open, closing, closed}, noStates...) {
		for flags := range 64 {
			f := flowOf(api.Ping, state, 1, 50)
			wantNext(t, f, flags, false, 3, state, 1, 11)
			wantNext(t, f, flags, true, 3, state, 1, 11)
		}
	}
}

func TestNextNoProtocol(t *testing.T) {
	for _, proto := range noProtocols {
		for flags := range 64 {
			for _, inward := range []bool{false, true} {
				wantNext(t, flowOf(proto, opening, 0, 50), flags, inward, 3, opening, 0, 7)
				wantNext(t, flowOf(proto, open, 0, 50), flags, inward, 3, open, 0, 63)
				wantNext(t, flowOf(proto, closing, 1, 50), flags, inward, 3, closing, 1, 9)
				wantNext(t, flowOf(proto, closed, 1, 50), flags, inward, 3, closed, 1, 9)
				wantNext(t, flowOf(proto, 0, 0, 50), flags, inward, 3, 0, 0, 9)
			}
		}
	}
}

func TestNextRst(t *testing.T) {
	for flags := range 64 {
		flags |= rst
		for _, inward := range []bool{false, true} {
			for _, state := range append([]int{opening, open, closing}, noStates...) {
				wantNext(t, flowOf(api.Tcp, state, 0, 50), flags, inward, 3, closed, 0, 9)
				wantNext(t, flowOf(api.Tcp, state, 1, 50), flags, inward, 3, closed, 1, 9)
			}
			wantNext(t, flowOf(api.Tcp, closed, 0, 50), flags, inward, 3, closed, 0, 50)
			wantNext(t, flowOf(api.Tcp, closed, 1, 50), flags, inward, 3, closed, 1, 50)
		}
	}
}

func TestNextOpeningInward(t *testing.T) {
	for _, x := range []struct{ flags, state, due int }{
		{syn | ack, open, 63}, {syn | ack | psh, open, 63}, {syn | ack | urg, open, 63},
		{syn | ack | fin, open, 63},
		{syn, opening, 50}, {ack, opening, 50}, {0, opening, 50}, {fin, opening, 50},
		{syn | fin, opening, 50}, {ack | fin, opening, 50}, {psh | urg, opening, 50},
	} {
		wantNext(t, flowOf(api.Tcp, opening, 0, 50), x.flags, true, 3, x.state, 0, x.due)
	}
}

func TestNextOpeningOutward(t *testing.T) {
	for _, x := range []struct{ flags, due int }{
		{syn, 7}, {syn | ack, 7}, {syn | fin, 7}, {syn | ack | fin, 7}, {syn | psh, 7},
		{ack, 50}, {0, 50}, {fin, 50}, {fin | ack, 50}, {psh | urg, 50},
	} {
		wantNext(t, flowOf(api.Tcp, opening, 0, 50), x.flags, false, 3, opening, 0, x.due)
	}
}

func TestNextOpen(t *testing.T) {
	for flags := range 64 {
		if flags&(fin|rst) == 0 {
			wantNext(t, flowOf(api.Tcp, open, 0, 5), flags, false, 3, open, 0, 63)
			wantNext(t, flowOf(api.Tcp, open, 1, 5), flags, true, 3, open, 1, 63)
		}
	}
}

// The side that ends is written whatever stood there; its time may become an earlier one.
func TestNextOpenFin(t *testing.T) {
	for flags := range 64 {
		flags = flags&^rst | fin
		for _, side := range []int{0, 1, 7} {
			wantNext(t, flowOf(api.Tcp, open, side, 50), flags, false, 3, closing, 0, 9)
			wantNext(t, flowOf(api.Tcp, open, side, 50), flags, true, 3, closing, 1, 9)
		}
	}
}

func TestNextClosingFin(t *testing.T) {
	for flags := range 64 {
		flags = flags&^rst | fin
		wantNext(t, flowOf(api.Tcp, closing, 0, 5), flags, true, 3, closed, 0, 9)
		wantNext(t, flowOf(api.Tcp, closing, 1, 5), flags, false, 3, closed, 1, 9)
		wantNext(t, flowOf(api.Tcp, closing, 0, 5), flags, false, 3, closing, 0, 5)
		wantNext(t, flowOf(api.Tcp, closing, 1, 5), flags, true, 3, closing, 1, 5)
	}
}

func TestNextClosingWithoutFin(t *testing.T) {
	for flags := range 64 {
		flags &^= rst | fin
		for _, side := range []int{0, 1} {
			wantNext(t, flowOf(api.Tcp, closing, side, 5), flags, false, 3, closing, side, 5)
			wantNext(t, flowOf(api.Tcp, closing, side, 5), flags, true, 3, closing, side, 5)
		}
	}
}

func TestNextClosedOrNoState(t *testing.T) {
	for flags := range 64 {
		flags &^= rst
		for _, state := range append([]int{closed}, noStates...) {
			for _, side := range []int{0, 1} {
				wantNext(t, flowOf(api.Tcp, state, side, 5), flags, false, 3, state, side, 5)
				wantNext(t, flowOf(api.Tcp, state, side, 5), flags, true, 3, state, side, 5)
			}
		}
	}
}

// A Side that is neither: whoever ends it now is another one.
func TestNextClosingOfNoSide(t *testing.T) {
	for _, side := range []int{-1, 2, math.MinInt, math.MaxInt} {
		wantNext(t, flowOf(api.Tcp, closing, side, 5), fin, true, 3, closed, side, 9)
		wantNext(t, flowOf(api.Tcp, closing, side, 5), fin, false, 3, closed, side, 9)
		wantNext(t, flowOf(api.Tcp, closing, side, 5), ack, true, 3, closing, side, 5)
	}
}

func TestNextByTheMapsProtocolAlone(t *testing.T) {
	protos := append([]int{api.Ping, api.Tcp, api.Udp}, noProtocols...)
	for _, its := range protos {
		for _, state := range []int{opening, open, closing, closed, 0} {
			for flags := range 64 {
				for _, inward := range []bool{false, true} {
					f := flowOf(its, state, 1, 50)
					want := Next(f, packetOf(its, flags), inward, 3)
					for _, other := range protos {
						if got := Next(f, packetOf(other, flags), inward, 3); got != want {
							t.Fatalf("a packet of protocol %d to %v: %v, want %v", other, f, got, want)
						}
					}
				}
			}
		}
	}
}

func TestNextAtTheEndsOfTime(t *testing.T) {
	for _, now := range []int{0, 1, api.MaxTime / 2, api.MaxTime} {
		wantNext(t, flowOf(api.Udp, open, 0, 9), 0, false, now, open, 0, now+20)
		wantNext(t, flowOf(api.Ping, open, 0, 9), 8, true, now, open, 0, now+8)
		wantNext(t, flowOf(api.Tcp, opening, 0, 9), syn, false, now, opening, 0, now+4)
		wantNext(t, flowOf(api.Tcp, open, 0, 9), ack, false, now, open, 0, now+60)
		wantNext(t, flowOf(api.Tcp, open, 0, 9), fin, false, now, closing, 0, now+6)
		wantNext(t, flowOf(api.Tcp, closed, 0, 9), ack, false, now, closed, 0, 9)
	}
	for _, now := range []int{-1, math.MinInt, math.MaxInt} {
		Next(flowOf(api.Tcp, open, 0, math.MinInt), packetOf(api.Tcp, ack), true, now)
	}
}

// A whole life, each step behind the one ahead of it.
func TestNextOneByOne(t *testing.T) {
	f := flowOf(api.Tcp, First(packetOf(api.Tcp, syn)), 0, Life(api.Tcp, opening))
	for _, x := range []struct {
		flags            int
		inward           bool
		now              int
		state, side, due int
	}{
		{syn, false, 1, opening, 0, 5},
		{syn | ack, true, 2, open, 0, 62},
		{ack, false, 3, open, 0, 63},
		{psh | ack, true, 4, open, 0, 64},
		{fin | ack, true, 5, closing, 1, 11},
		{fin | ack, true, 6, closing, 1, 11},
		{ack, false, 7, closing, 1, 11},
		{fin | ack, false, 8, closed, 1, 14},
		{syn, false, 9, closed, 1, 14},
		{rst, true, 10, closed, 1, 14},
	} {
		wantNext(t, f, x.flags, x.inward, x.now, x.state, x.side, x.due)
		f = Next(f, packetOf(api.Tcp, x.flags), x.inward, x.now)
	}
}
