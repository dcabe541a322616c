package wire

import (
	"encoding/hex"
	"math"
	"math/rand"
	"testing"

	"rentroll/api"
)

// turned is the packet that Turn's frame is of.
func turned(p api.Packet, side, addr, port int) api.Packet {
	p.Ttl--
	if side == 0 {
		p.From, p.Sport = addr, port
	} else {
		p.To, p.Dport = addr, port
	}
	return p
}

// sidesOf are the sides that a packet may be turned on.
func sidesOf(p api.Packet) []int {
	switch {
	case p.Proto != api.Ping:
		return []int{0, 1}
	case p.Flags == 8:
		return []int{0}
	}
	return []int{1}
}

func wantTurn(t *testing.T, f string, p api.Packet, side, addr, port int) {
	t.Helper()
	want := plainFrame(turned(p, side, addr, port))
	if g, e := Turn(f, side, addr, port); g != want || e != api.OK {
		t.Fatalf("Turn of %+v, side %d, to %d, %d = %x, %d, not %x", p, side, addr, port, g, e, want)
	}
}

// P2.5

func TestTurnWorkedOut(t *testing.T) {
	for _, c := range []struct {
		p                api.Packet
		side, addr, port int
		want             api.Packet
	}{
		{askingPing, 0, 0xCB007101, 1024, api.Packet{Proto: api.Ping, From: 0xCB007101, To: outsider, Ttl: 63, Id: 0x1234, Flags: 8, Sport: 1024, Seq: 0x0304, Body: "abc"}},
		{answeringPing, 1, 9, 8, api.Packet{Proto: api.Ping, From: outsider, To: 9, Ttl: 54, Id: 1, Dport: 8, Seq: 0x0304, Body: "abc"}},
		{someUdp, 0, 9, 8, api.Packet{Proto: api.Udp, From: 9, Sport: 8, To: outsider, Dport: 53, Ttl: 63, Id: 7, Body: "hello"}},
		{someUdp, 1, 9, 8, api.Packet{Proto: api.Udp, From: insider, Sport: 5000, To: 9, Dport: 8, Ttl: 63, Id: 7, Body: "hello"}},
		{someTcp, 0, 0, 0, api.Packet{Proto: api.Tcp, From: 0, Sport: 0, To: outsider, Dport: 443, Ttl: 254, Id: 0xFFFF, Flags: 18, Seq: 0x01020304, Ack: 0xA0B0C0D0, Win: 0x7210}},
		{someTcp, 1, 1<<32 - 1, 65535, api.Packet{Proto: api.Tcp, From: insider, Sport: 40000, To: 1<<32 - 1, Dport: 65535, Ttl: 254, Id: 0xFFFF, Flags: 18, Seq: 0x01020304, Ack: 0xA0B0C0D0, Win: 0x7210}},
	} {
		f, e := Turn(mustBuild(t, c.p), c.side, c.addr, c.port)
		if f != plainFrame(c.want) || e != api.OK {
			t.Errorf("Turn of %+v = %x, %d, not %x", c.p, f, e, plainFrame(c.want))
		}
	}
}

func TestTurnAny(t *testing.T) {
	r := rand.New(rand.NewSource(6))
	for range 20000 {
		p := anyPacket(r)
		p.Ttl = max(2, p.Ttl)
		addr := []int{0, 1<<32 - 1, p.From, r.Intn(1 << 32)}[r.Intn(4)]
		port := []int{0, 65535, p.Sport, r.Intn(1 << 16)}[r.Intn(4)]
		for _, side := range sidesOf(p) {
			wantTurn(t, plainFrame(p), p, side, addr, port)
		}
	}
}

// Through all ports and all lower halves of an address every check comes by both its noughts.
func TestTurnThroughAllWords(t *testing.T) {
	noughts := api.Packet{Proto: api.Ping, From: outsider, To: insider, Ttl: 2, Dport: 7, Body: "\x00\x00\x00"}
	for _, p := range append([]api.Packet{noughts}, allKinds...) {
		f := plainFrame(p)
		for _, side := range sidesOf(p) {
			for n := range 65536 {
				wantTurn(t, f, p, side, 0xCB007101, n)
				wantTurn(t, f, p, side, 0xCB00<<16|n, 1024)
			}
		}
	}
}

// A frame may have the other nought as a check than the one that Build writes; what it is turned to has Build's.
func TestTurnTwofoldChecks(t *testing.T) {
	for _, p := range allKinds {
		odd := []raw{rawOf(twofoldHead(t, p))}
		odd[0].headOff = 65535
		packets := []api.Packet{twofoldHead(t, p)}
		if p.Proto != api.Udp {
			for _, q := range twofoldParts(t, p) {
				r := rawOf(q)
				r.partOff = 65535
				odd, packets = append(odd, r), append(packets, q)
			}
		}
		for i, q := range packets {
			f := odd[i].text(p.Proto)
			for _, side := range sidesOf(q) {
				wantTurn(t, f, q, side, q.From, q.Sport)
				wantTurn(t, f, q, side, q.To, q.Dport)
				wantTurn(t, f, q, side, 0, 0)
				wantTurn(t, f, q, side, 1<<32-1, 65535)
				wantTurn(t, f, q, side, 0xCB007101, 1024)
			}
		}
	}
}

// A word of 65535 that goes to 0 leaves the sum what it was: the other nought as a check must not outlast it.
func TestTurnTwofoldCheckOfAFullWord(t *testing.T) {
	for _, p := range []api.Packet{askingPing, someTcp} {
		p.From, p.Sport, p.Ttl = 1<<32-1, 65535, 2
		for _, q := range twofoldParts(t, p) {
			r := rawOf(q)
			r.partOff = 65535
			for _, port := range []int{0, 65535} {
				wantTurn(t, r.text(p.Proto), q, 0, 0, port)
				wantTurn(t, r.text(p.Proto), q, 0, 1<<32-1, port)
			}
		}
		r := rawOf(twofoldHead(t, p))
		r.headOff = 65535
		wantTurn(t, r.text(p.Proto), twofoldHead(t, p), 0, 0, 0)
	}
}

func TestTurnToNothingButNoughts(t *testing.T) {
	for _, body := range []string{"", "\x00", "\x00\x00"} {
		p := api.Packet{Proto: api.Ping, From: outsider, To: insider, Ttl: 2, Dport: 65535, Body: body}
		wantTurn(t, plainFrame(p), p, 1, insider, 0)
		p.Dport = 0
		wantTurn(t, plainFrame(p), p, 1, insider, 0)
		wantTurn(t, plainFrame(p), p, 1, insider, 65535)
	}
}

func wantNoTurn(t *testing.T, what, f string, side, addr, port int, want api.Errno) {
	t.Helper()
	if g, e := Turn(f, side, addr, port); g != "" || e != want {
		t.Errorf("%s: Turn(%x, %d, %d, %d) = %x, %d, not %d", what, f, side, addr, port, g, e, want)
	}
}

func TestTurnRange(t *testing.T) {
	for _, p := range allKinds {
		f, side := plainFrame(p), sidesOf(p)[0]
		for _, n := range []int{-1, 2, 3, 256, 1 << 32, math.MinInt, math.MaxInt} {
			wantNoTurn(t, "side", f, n, 1, 1, api.ErrRange)
		}
		for _, n := range []int{-1, 1 << 32, math.MinInt, math.MaxInt} {
			wantNoTurn(t, "addr", f, side, n, 1, api.ErrRange)
		}
		for _, n := range []int{-1, 65536, 1 << 32, math.MinInt, math.MaxInt} {
			wantNoTurn(t, "port", f, side, 1, n, api.ErrRange)
		}
	}
}

func TestTurnDead(t *testing.T) {
	for _, p := range allKinds {
		last := with(p, func(p *api.Packet) { p.Ttl = 1 })
		for _, side := range []int{0, 1} {
			wantNoTurn(t, "Ttl 1", plainFrame(last), side, 1, 1, api.ErrDead)
		}
		last.Ttl = 2
		wantTurn(t, plainFrame(last), last, sidesOf(p)[0], 1, 1)
	}
}

func TestTurnPingsOnEachSide(t *testing.T) {
	wantTurn(t, plainFrame(askingPing), askingPing, 0, 1, 1)
	wantNoTurn(t, "asks", plainFrame(askingPing), 1, 1, 1, api.ErrKind)
	wantTurn(t, plainFrame(answeringPing), answeringPing, 1, 1, 1)
	wantNoTurn(t, "answers", plainFrame(answeringPing), 0, 1, 1, api.ErrKind)
}

func TestTurnSaysParsesError(t *testing.T) {
	for _, w := range wrongs() {
		p := api.Packet{Proto: api.Ping, Ttl: 1, Flags: 8}
		if w.proto != 0 {
			p = api.Packet{Proto: w.proto, Ttl: 1, Flags: map[int]int{api.Ping: 8}[w.proto]}
		}
		r := rawOf(p)
		w.do(&r)
		wantNoTurn(t, w.name, r.text(p.Proto), 1, 1, 1, w.e)
		wantNoTurn(t, w.name+" and range", r.text(p.Proto), 2, -1, -1, w.e)
	}
}

func TestTurnSaysTheFirst(t *testing.T) {
	last := plainFrame(with(askingPing, func(p *api.Packet) { p.Ttl = 1 }))
	wantNoTurn(t, "range and Ttl 1", last, 0, -1, 1, api.ErrRange)
	wantNoTurn(t, "range and side of a Ping", plainFrame(askingPing), 1, 1, 65536, api.ErrRange)
	wantNoTurn(t, "Ttl 1 and side of a Ping", last, 1, 1, 1, api.ErrDead)
	wantNoTurn(t, "all", last, 1, 1<<32, 1, api.ErrRange)
}

// P2.6

// plainRefusal is the document's words on Refuse's frame, taken one by one.
func plainRefusal(f string, p api.Packet, id int) string {
	r := raw{kind: 0x45, id: id, ttl: 64, proto: api.Ping, from: 10<<24 + 254, to: p.From}
	r.part = append([]byte{3, 13, 0, 0, 0, 0, 0, 0}, f[:28]...)
	return r.text(api.Ping)
}

func TestRefuseWorkedOut(t *testing.T) {
	want := "4500003800040000400165c30a0000fe0a000001" + "030d5af100000000" +
		"45000028ffff0000ff0687940a000001c6336407" + "9c4001bb01020304"
	f, e := Refuse(mustBuild(t, someTcp), 4)
	if got := hex.EncodeToString([]byte(f)); got != want || e != api.OK {
		t.Errorf("Refuse = %s, %d, not %s", got, e, want)
	}
}

func TestRefuseAny(t *testing.T) {
	r := rand.New(rand.NewSource(7))
	for range 20000 {
		p := anyPacket(r)
		id := []int{0, 1, 65535, r.Intn(65536)}[r.Intn(4)]
		f := plainFrame(p)
		if g, e := Refuse(f, id); g != plainRefusal(f, p, id) || e != api.OK {
			t.Fatalf("Refuse(%x, %d) = %x, %d, not %x", f, id, g, e, plainRefusal(f, p, id))
		}
	}
}

func TestRefuseFewestBytes(t *testing.T) {
	for _, p := range allKinds {
		p.Body, p.Ttl = "", 1
		f := plainFrame(p)
		if g, e := Refuse(f, 0); g != plainRefusal(f, p, 0) || e != api.OK {
			t.Errorf("Refuse(%x, 0) = %x, %d", f, g, e)
		}
	}
}

func TestRefuseWrong(t *testing.T) {
	for _, p := range allKinds {
		for _, id := range []int{-1, 65536, 1 << 32, math.MinInt, math.MaxInt} {
			if f, e := Refuse(plainFrame(p), id); f != "" || e != api.ErrRange {
				t.Errorf("Refuse with id %d = %x, %d", id, f, e)
			}
		}
		for _, w := range wrongs() {
			if w.proto != 0 && w.proto != p.Proto {
				continue
			}
			r := rawOf(p)
			w.do(&r)
			for _, id := range []int{0, -1} {
				if f, e := Refuse(r.text(p.Proto), id); f != "" || e != w.e {
					t.Errorf("%s: Refuse with id %d = %x, %d, not %d", w.name, id, f, e, w.e)
				}
			}
		}
	}
}
