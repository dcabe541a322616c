package track

import (
	"math/rand"
	"testing"

	"rentroll/api"
)

// What follows is the document's words on flows taken by their letter, as a measure that shares nothing with the package.

// plainFlags is the flags of a packet, one by one.
type plainFlags struct{ fin, syn, rst, ack bool }

func plainFlagsOf(n int) plainFlags {
	odd := func() bool {
		bit := n % 2
		n /= 2
		return bit == 1
	}
	var x plainFlags
	x.fin, x.syn, x.rst, _, x.ack = odd(), odd(), odd(), odd(), odd()
	return x
}

func plainLife(proto, state int) int {
	if life, ok := map[int]int{1: 8, 17: 20}[proto]; ok {
		return life
	}
	if life, ok := map[int]int{2: 60, 1: 4}[state]; ok {
		return life
	}
	return 6
}

// plainRule is one of the sentences on Tcp: whether it applies, and what it says then.
type plainRule struct {
	applies     bool
	state, side int
	refreshed   bool
}

func plainRules(f api.Flow, x plainFlags, inward bool) []plainRule {
	from := map[bool]int{true: 1, false: 0}[inward]
	isOpening, isOpen, isClosing, isClosed := f.State == 1, f.State == 2, f.State == 3, f.State == 4
	return []plainRule{
		{x.rst, 4, f.Side, !isClosed},
		{isOpening && inward && x.syn && x.ack, 2, f.Side, true},
		{isOpen && x.fin, 3, from, true},
		{isClosing && x.fin && from != f.Side, 4, f.Side, true},
		{isOpening, 1, f.Side, !inward && x.syn},
		{isOpen, 2, f.Side, true},
		{true, f.State, f.Side, false},
	}
}

func plainNext(f api.Flow, p api.Packet, inward bool, now int) api.Flow {
	rule := plainRule{true, f.State, f.Side, !(f.Map.Proto == 17 && inward)}
	if f.Map.Proto == 6 {
		for _, rule = range plainRules(f, plainFlagsOf(p.Flags), inward) {
			if rule.applies {
				break
			}
		}
	}
	due := f.Due
	if rule.refreshed {
		due = plainLife(f.Map.Proto, rule.state) + now
	}
	return api.Flow{Map: f.Map, Remote: f.Remote, Rport: f.Rport, State: rule.state, Side: rule.side, Due: due}
}

func plainBegins(p api.Packet) bool {
	x := plainFlagsOf(p.Flags)
	return p.Proto == 17 || p.Proto == 1 && p.Flags == 8 || p.Proto == 6 && x.syn && !x.fin && !x.rst && !x.ack
}

// Each state with each packet, both ways.
func TestEveryPacketByThePlainWords(t *testing.T) {
	for proto := -1; proto <= 18; proto++ {
		for flags := range 64 {
			p := packetOf(proto, flags)
			if Begins(p) != plainBegins(p) {
				t.Fatalf("Begins of protocol %d, flags %d: %v", proto, flags, Begins(p))
			}
			for state := -1; state <= 6; state++ {
				if Life(proto, state) != plainLife(proto, state) {
					t.Fatalf("Life(%d, %d) = %d", proto, state, Life(proto, state))
				}
				for side := -1; side <= 2; side++ {
					f := flowOf(proto, state, side, 1000)
					for _, inward := range []bool{false, true} {
						if got, want := Next(f, p, inward, 100), plainNext(f, p, inward, 100); got != want {
							t.Fatalf("Next of %v, flags %d, inward %v: %v, want %v", f, flags, inward, got, want)
						}
					}
				}
			}
		}
	}
}

// Long runs of packets, of whichever protocol, upon one flow.
func TestRunsByThePlainWords(t *testing.T) {
	r := rand.New(rand.NewSource(6))
	protos := []int{1, 6, 6, 6, 17, 0}
	for range 3000 {
		got := api.Flow{
			Map:    api.Map{Proto: protos[r.Intn(6)], S: r.Intn(8), In: r.Intn(65536), A: r.Intn(3), Port: 1024 + r.Intn(48)},
			Remote: r.Intn(1 << 32), Rport: r.Intn(65536), State: 1 + r.Intn(4), Side: r.Intn(2), Due: r.Intn(100),
		}
		want, now := got, 0
		for range 30 {
			p := packetOf(protos[r.Intn(6)], r.Intn(64)&r.Intn(64))
			inward := r.Intn(2) == 0
			now += r.Intn(5)
			before := want
			got, want = Next(got, p, inward, now), plainNext(want, p, inward, now)
			if got != want {
				t.Fatalf("Next of %v, flags %d, inward %v, at %d: %v, want %v", before, p.Flags, inward, now, got, want)
			}
		}
	}
}
