package nat

import (
	"rentroll/api"
	"rentroll/bind"
	"rentroll/record"
	"rentroll/track"
	"rentroll/wire"
)

// Flags of a Ping.
const (
	answers = 0
	asks    = 8
)

// Sides of a frame that Turn changes.
const (
	sender   = 0
	receiver = 1
)

// The first subscriber inside, and the first address outside.
const (
	firstInside  = api.Inside + 1
	firstOutside = api.Outside + 1
)

// subscriber is whose an address inside is, and whether it is anybody's.
func subscriber(addr int) (int, bool) {
	s := addr - firstInside
	return s, 0 <= s && s < api.Subscribers
}

// address is which one of those outside that is, and whether it is one.
func address(addr int) (int, bool) {
	a := addr - firstOutside
	return a, 0 <= a && a < api.Addresses
}

// out is what comes of a frame from inside.
func (n *Nat) out(frame string, draw int) api.Reply {
	p, e := wire.Parse(frame)
	if e != api.OK {
		return failed(e)
	}
	s, ok := subscriber(p.From)
	switch {
	case !ok:
		return failed(api.ErrNone)
	case p.Proto == api.Ping && p.Flags != asks:
		return failed(api.ErrKind)
	case p.Ttl == 1:
		return failed(api.ErrDead)
	}
	if number, goesOn := n.find(outward(p, s)); goesOn {
		n.goOn(number, p, false)
		return n.leave(frame, n.flows[number])
	}
	if !track.Begins(p) {
		return failed(api.ErrFilter)
	}
	return n.first(frame, p, s, draw)
}

// outward is what tells the flow that a packet of a subscriber's belongs to.
func outward(p api.Packet, s int) func(api.Flow) bool {
	return func(f api.Flow) bool {
		m := f.Map
		return m.Proto == p.Proto && m.S == s && m.In == p.Sport && f.Remote == p.To && f.Rport == p.Dport
	}
}

// first is what comes of the first frame of a flow from inside.
func (n *Nat) first(frame string, p api.Packet, s, draw int) api.Reply {
	if n.full() {
		return n.refuse(frame, api.ErrFull)
	}
	table, m, took, e := bind.Open(n.table, p.Proto, s, p.Sport, draw)
	if e != api.OK {
		return n.refuse(frame, e)
	}
	n.table = table
	f := api.Flow{Map: m, Remote: p.To, Rport: p.Dport, State: track.First(p)}
	n.begin(f)
	r := n.leave(frame, f)
	if took {
		r.Log = n.log(n.event(m, false))
	}
	return r
}

// leave is a frame of a flow on its way out; what goes to an address outside is back in at once.
func (n *Nat) leave(frame string, f api.Flow) api.Reply {
	turned, e := wire.Turn(frame, sender, firstOutside+f.Map.A, f.Map.Port)
	if _, back := address(f.Remote); back {
		return n.in(turned)
	}
	return api.Reply{Code: e, Frame: turned}
}

// refuse is what comes of a frame that finds no port; its sender is told that only so often.
func (n *Nat) refuse(frame string, why api.Errno) api.Reply {
	if n.left == 0 {
		return failed(why)
	}
	// It cannot fail, as the frame was parsed ahead.
	told, _ := wire.Refuse(frame, n.left)
	n.left--
	return api.Reply{Code: why, Frame: told, Inner: true}
}

// in is what comes of a frame from outside.
func (n *Nat) in(frame string) api.Reply {
	p, e := wire.Parse(frame)
	if e != api.OK {
		return failed(e)
	}
	a, ok := address(p.To)
	switch {
	case !ok:
		return failed(api.ErrNone)
	case p.Proto == api.Ping && p.Flags != answers:
		return failed(api.ErrKind)
	case p.Ttl == 1:
		return failed(api.ErrDead)
	}
	m, ok := bind.Back(n.table, p.Proto, a, p.Dport)
	if !ok {
		return failed(api.ErrNone)
	}
	if e := n.letIn(p, m); e != api.OK {
		return failed(e)
	}
	turned, e := wire.Turn(frame, receiver, firstInside+m.S, m.In)
	return api.Reply{Code: e, Frame: turned, Inner: true}
}

// letIn has a packet to a map go on with its flow, or begin one, if it may.
func (n *Nat) letIn(p api.Packet, m api.Map) api.Errno {
	known := func(f api.Flow) bool { return f.Map == m && f.Remote == p.From }
	number, goesOn := n.find(func(f api.Flow) bool { return known(f) && f.Rport == p.Sport })
	switch {
	case goesOn:
		n.goOn(number, p, true)
		return api.OK
	case !n.loose && !n.has(known):
		return api.ErrFilter
	case p.Proto != api.Udp || n.full():
		return api.ErrFilter
	}
	n.begin(api.Flow{Map: m, Remote: p.From, Rport: p.Sport, State: api.Open})
	return api.OK
}

// tick is what comes of time: refusals may be told again, and flows end.
func (n *Nat) tick(ticks int) api.Reply {
	if ticks < 1 || ticks > api.MaxTime/2-n.Now() {
		return failed(api.ErrRange)
	}
	n.left = min(n.left+ticks, api.Burst)
	due, e := n.timers.Advance(n.Now() + ticks)
	var given []api.Event
	for _, number := range due {
		m := n.end(number)
		if n.closeUnused(m) {
			given = append(given, n.event(m, true))
		}
	}
	return api.Reply{Code: e, Log: n.log(given...)}
}

// closeUnused does away with a map if no flow has it any more, and is whether its block was given back.
func (n *Nat) closeUnused(m api.Map) bool {
	if n.has(func(f api.Flow) bool { return f.Map == m }) {
		return false
	}
	// It cannot fail: the map of a flow stands in the table until here.
	table, given, _ := bind.Close(n.table, m)
	n.table = table
	return given
}

// event is that the block of a map's port is taken, or given back.
func (n *Nat) event(m api.Map, free bool) api.Event {
	block, _, _ := bind.Block(m.Port)
	return api.Event{Time: n.Now(), S: m.S, A: m.A, Block: block, Free: free}
}

// log is what is told of an act's events; whoever reads it must have been told first what messages are made of.
func (n *Nat) log(l ...api.Event) string {
	if len(l) == 0 {
		return ""
	}
	template := ""
	if n.logged == 0 {
		template, _ = record.Template(0)
	}
	// It cannot fail: an act has fewer events than a message may have, all of them of one time.
	message, _ := record.Message(n.logged, l)
	n.logged += len(l)
	return template + message
}
