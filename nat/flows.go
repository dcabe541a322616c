package nat

import (
	"slices"

	"rentroll/api"
	"rentroll/track"
)

func (n *Nat) full() bool { return len(n.flows) >= api.MaxFlows }

// find is the number of the first flow that is so, and whether there is one.
func (n *Nat) find(so func(api.Flow) bool) (int, bool) {
	for _, number := range n.order {
		if so(n.flows[number]) {
			return number, true
		}
	}
	return 0, false
}

// has is whether any flow that is left is so.
func (n *Nat) has(so func(api.Flow) bool) bool {
	_, ok := n.find(so)
	return ok
}

// begin is a flow more, for as long as its first packet lets it live.
func (n *Nat) begin(f api.Flow) {
	f.Due = n.Now() + track.Life(f.Map.Proto, f.State)
	n.began++
	n.order = append(n.order, n.began)
	n.keep(n.began, f)
}

// goOn is a flow behind one more of its packets.
func (n *Nat) goOn(number int, p api.Packet, inward bool) {
	n.keep(number, track.Next(n.flows[number], p, inward, n.Now()))
}

// keep lays a flow down as it is now, and sets its timer by it.
func (n *Nat) keep(number int, f api.Flow) {
	// Made here and not by New: a Nat that nobody made must not panic.
	if n.flows == nil {
		n.flows = make(map[int]api.Flow)
	}
	n.flows[number] = f
	// It cannot fail: more timers may wait than flows, and all of time is twice what a road sees of it.
	n.timers.Arm(number, f.Due)
}

// end takes a flow away whose timer went off, and is the map that it had.
func (n *Nat) end(number int) api.Map {
	m := n.flows[number].Map
	delete(n.flows, number)
	n.order = slices.DeleteFunc(n.order, func(other int) bool { return other == number })
	return m
}
