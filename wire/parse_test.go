package wire

import (
	"math/rand"
	"strings"
	"testing"

	"rentroll/api"
)

func wantParse(t *testing.T, what, f string, want api.Errno) {
	t.Helper()
	p, e := Parse(f)
	if e != want {
		t.Errorf("%s: Parse(%x) says %d, not %d", what, f, e, want)
	}
	if e != api.OK && p != (api.Packet{}) {
		t.Errorf("%s: Parse(%x) answers %+v with an error", what, f, p)
	}
}

// P2.4

func TestParseWhatBuildMakes(t *testing.T) {
	r := rand.New(rand.NewSource(3))
	packets := append([]api.Packet{}, allKinds...)
	for range 20000 {
		packets = append(packets, anyPacket(r))
	}
	for _, p := range packets {
		if q, e := Parse(plainFrame(p)); q != p || e != api.OK {
			t.Fatalf("Parse of %+v = %+v, %d", p, q, e)
		}
	}
}

// wrong is something that is wrong with a frame; the list is in the document's order.
type wrong struct {
	name  string
	e     api.Errno
	proto int // 0: of every protocol
	do    func(*raw)
}

func wrongs() []wrong {
	return []wrong{
		{"no bytes", api.ErrForm, 0, func(r *raw) { r.cut = 20 + len(r.part) }},
		{"19 bytes", api.ErrForm, 0, func(r *raw) { r.cut = 1 + len(r.part) }},
		{"first byte", api.ErrForm, 0, func(r *raw) { r.kind = 0x46 }},
		{"first byte to the base 10", api.ErrForm, 0, func(r *raw) { r.kind = 45 }},
		{"length above", api.ErrForm, 0, func(r *raw) { r.lengthOff = 1 }},
		{"length below", api.ErrForm, 0, func(r *raw) { r.lengthOff = -1 }},
		{"head's sum", api.ErrSum, 0, func(r *raw) { r.headOff = 1 }},
		{"second byte", api.ErrKind, 0, func(r *raw) { r.service = 1 }},
		{"seventh byte", api.ErrKind, 0, func(r *raw) { r.seventh = 0x40 }},
		{"eighth byte", api.ErrKind, 0, func(r *raw) { r.eighth = 1 }},
		{"no time to live", api.ErrDead, 0, func(r *raw) { r.ttl = 0 }},
		{"protocol", api.ErrKind, 0, func(r *raw) { r.proto = 2 }},
		{"nothing behind the head", api.ErrForm, 0, func(r *raw) { r.part = nil }},
		{"7 bytes behind the head", api.ErrForm, 0, func(r *raw) { r.part = r.part[:min(7, len(r.part))] }},
		{"19 bytes behind the head", api.ErrForm, api.Tcp, func(r *raw) { r.part = r.part[:min(19, len(r.part))] }},
		{"sum", api.ErrSum, 0, func(r *raw) { r.partOff = 1 }},
		{"no check", api.ErrSum, api.Udp, func(r *raw) { r.noCheck = true }},
		{"Ping's first byte", api.ErrKind, api.Ping, func(r *raw) { r.set(0, 3) }},
		{"Ping's second byte", api.ErrKind, api.Ping, func(r *raw) { r.set(1, 1) }},
		{"Tcp's thirteenth byte", api.ErrKind, api.Tcp, func(r *raw) { r.set(12, 0x60) }},
		{"Tcp's thirteenth byte, its low half", api.ErrKind, api.Tcp, func(r *raw) { r.set(12, 0x51) }},
		{"Tcp's flags", api.ErrKind, api.Tcp, func(r *raw) { r.set(13, 64) }},
		{"Tcp's last byte but one", api.ErrKind, api.Tcp, func(r *raw) { r.set(18, 1) }},
		{"Tcp's last byte", api.ErrKind, api.Tcp, func(r *raw) { r.set(19, 1) }},
		{"Udp's length", api.ErrForm, api.Udp, func(r *raw) { r.set(5, 7) }},
		{"body", api.ErrLong, 0, func(r *raw) { r.lengthen() }},
	}
}

func (r *raw) set(at int, b byte) {
	if at < len(r.part) {
		r.part[at] = b
	}
}

// lengthen makes the body one byte longer than it may be, of Udp its length with it, unless that is wrong already.
func (r *raw) lengthen() {
	least := map[byte]int{api.Ping: 8, api.Udp: 8, api.Tcp: 20}[r.proto]
	if least == 0 || len(r.part) < least {
		return
	}
	right := r.proto == api.Udp && int(r.part[5]) == len(r.part)
	r.part = append(r.part, strings.Repeat("y", least+65-len(r.part))...)
	if right {
		put16(r.part[4:], len(r.part))
	}
}

func TestParseEachWrong(t *testing.T) {
	for _, p := range allKinds {
		for _, w := range wrongs() {
			if w.proto != 0 && w.proto != p.Proto {
				continue
			}
			r := rawOf(p)
			w.do(&r)
			wantParse(t, w.name, r.text(p.Proto), w.e)
		}
	}
}

func TestParseSaysTheFirst(t *testing.T) {
	for _, p := range allKinds {
		all := wrongs()
		for i, first := range all {
			for _, then := range all[i+1:] {
				if first.proto != 0 && first.proto != p.Proto || then.proto != 0 && then.proto != p.Proto {
					continue
				}
				r := rawOf(p)
				first.do(&r)
				then.do(&r)
				if first.name == "no bytes" || first.name == "19 bytes" {
					first.do(&r)
				}
				wantParse(t, first.name+" and "+then.name, r.text(p.Proto), first.e)
			}
		}
	}
}

func TestParseFewBytes(t *testing.T) {
	for _, p := range allKinds {
		f := plainFrame(p)
		for n := range f {
			wantParse(t, "cut", f[:n], api.ErrForm)
		}
		wantParse(t, "one more", f+"\x00", api.ErrForm)
	}
	wantParse(t, "more than a word", plainFrame(someTcp)+strings.Repeat("\x00", 65536), api.ErrForm)
}

func TestParseLongBody(t *testing.T) {
	for _, p := range allKinds {
		for _, n := range []int{65, 66, 1000, 65535 - 40} {
			p.Body = strings.Repeat("z", n)
			wantParse(t, "body", plainFrame(p), api.ErrLong)
		}
	}
}

func TestParseTtlAndProtocol(t *testing.T) {
	for n := range 256 {
		r := rawOf(someUdp)
		r.ttl = byte(n)
		want := api.OK
		if n == 0 {
			want = api.ErrDead
		}
		wantParse(t, "Ttl", r.text(api.Udp), want)
		if n != api.Ping && n != api.Udp && n != api.Tcp {
			r = rawOf(someUdp)
			r.proto = byte(n)
			wantParse(t, "Proto", r.text(api.Udp), api.ErrKind)
		}
	}
}

func TestParseByteByByte(t *testing.T) {
	for n := range 256 {
		b := byte(n)
		ping := rawOf(askingPing)
		ping.part[0] = b
		wantParse(t, "Ping's first byte", ping.text(api.Ping), kindUnless(n == 0 || n == 8))
		ping = rawOf(askingPing)
		ping.part[1] = b
		wantParse(t, "Ping's second byte", ping.text(api.Ping), kindUnless(n == 0))
		tcp := rawOf(someTcp)
		tcp.part[12] = b
		wantParse(t, "Tcp's thirteenth byte", tcp.text(api.Tcp), kindUnless(n == 0x50))
		tcp = rawOf(someTcp)
		tcp.part[13] = b
		wantParse(t, "Tcp's flags", tcp.text(api.Tcp), kindUnless(n <= 63))
	}
}

func kindUnless(ok bool) api.Errno {
	if ok {
		return api.OK
	}
	return api.ErrKind
}

// The bytes that a Tcp must have as 0 are its own last two, not those of the body.
func TestParseTcpWithBody(t *testing.T) {
	p := with(someTcp, func(p *api.Packet) { p.Body = "\xff\xff" })
	wantParse(t, "body", plainFrame(p), api.OK)
	r := rawOf(with(someTcp, func(p *api.Packet) { p.Body = "\x00\x00" }))
	r.part[19] = 1
	wantParse(t, "last byte", r.text(api.Tcp), api.ErrKind)
}

// Of is 65535 with a check of 0 and with one of 65535 where all else comes to 65535: both are right, but for Udp's 0.
func TestParseTwofoldChecks(t *testing.T) {
	for _, p := range allKinds {
		for _, twofold := range twofoldParts(t, p) {
			r := rawOf(twofold)
			if p.Proto == api.Udp {
				wantParse(t, "65535", r.text(p.Proto), api.OK)
				r.noCheck = true
				wantParse(t, "0", r.text(p.Proto), api.ErrSum)
				continue
			}
			wantParse(t, "0", r.text(p.Proto), api.OK)
			r.partOff = 65535
			wantParse(t, "65535", r.text(p.Proto), api.OK)
		}
		r := rawOf(twofoldHead(t, p))
		wantParse(t, "head, 0", r.text(p.Proto), api.OK)
		r.headOff = 65535
		wantParse(t, "head, 65535", r.text(p.Proto), api.OK)
	}
	nought := rawOf(api.Packet{Proto: api.Ping, Ttl: 1})
	wantParse(t, "nothing but noughts, 65535", nought.text(api.Ping), api.OK)
	nought.noCheck = true
	wantParse(t, "nothing but noughts, 0", nought.text(api.Ping), api.ErrSum)
}

// twofoldParts are packets like one whose check behind the head is of a sum of 65535.
func twofoldParts(t *testing.T, p api.Packet) []api.Packet {
	t.Helper()
	var l []api.Packet
	for n := 1; n < 65535; n++ {
		if p.Proto == api.Ping {
			p.Seq = n
		} else if p.Flags == 0 {
			p.Dport = n
		} else {
			p.Win = n
		}
		at := 20 + checkPlace(p.Proto)
		if f := plainFrame(p); f[at:at+2] == "\x00\x00" || f[at:at+2] == "\xff\xff" {
			l = append(l, p)
		}
	}
	if len(l) == 0 {
		t.Fatalf("none is like %+v", p)
	}
	return l
}

// twofoldHead is a packet like one whose head's check is of a sum of 65535.
func twofoldHead(t *testing.T, p api.Packet) api.Packet {
	t.Helper()
	for p.Id = 1; p.Id < 65535; p.Id++ {
		if f := plainFrame(p); f[10:12] == "\x00\x00" {
			return p
		}
	}
	t.Fatalf("none is like %+v", p)
	return p
}

func TestParseChangedBytes(t *testing.T) {
	r := rand.New(rand.NewSource(4))
	for range 50000 {
		f := []byte(plainFrame(anyPacket(r)))
		f[r.Intn(len(f))] ^= byte(1 << r.Intn(8))
		if p, e := Parse(string(f)); e == api.OK || p != (api.Packet{}) {
			t.Fatalf("Parse(%x) = %+v, %d", f, p, e)
		}
	}
}

func TestParseAnyBytes(t *testing.T) {
	r := rand.New(rand.NewSource(5))
	for range 50000 {
		f := make([]byte, r.Intn(120))
		r.Read(f)
		if len(f) > 20 && r.Intn(2) == 0 {
			f[0], f[2], f[3] = 0x45, 0, byte(len(f))
		}
		if p, e := Parse(string(f)); e == api.OK || p != (api.Packet{}) {
			t.Fatalf("Parse(%x) = %+v, %d", f, p, e)
		}
	}
}
