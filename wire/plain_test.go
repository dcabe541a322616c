package wire

import (
	"encoding/binary"
	"math/rand"
	"strings"
	"testing"

	"rentroll/api"
)

// plainOf is the sum of the internet, as a measure that shares nothing with the packages.
func plainOf(b []byte) int {
	sum := 0
	for i, c := range b {
		if i%2 == 0 {
			sum += int(c) * 256
		} else {
			sum += int(c)
		}
	}
	for sum > 65535 {
		sum = sum%65536 + sum/65536
	}
	return sum
}

// raw is a frame in the making, in which everything may be wrong.
type raw struct {
	kind, service    byte
	lengthOff        int
	id               int
	seventh, eighth  byte
	ttl, proto       byte
	from, to         int
	part             []byte
	headOff, partOff int // added to the checks that would be right
	noCheck          bool
	cut              int // bytes that are missing at the end
}

func checkPlace(proto int) int {
	return map[int]int{api.Ping: 2, api.Udp: 6, api.Tcp: 16}[proto]
}

func put16(b []byte, n int) { binary.BigEndian.PutUint16(b, uint16(n)) }

func put32(b []byte, n int) { binary.BigEndian.PutUint32(b, uint32(n)) }

// rawOf is the document's words on a packet's frame, taken one by one.
func rawOf(p api.Packet) raw {
	r := raw{kind: 0x45, id: p.Id, ttl: byte(p.Ttl), proto: byte(p.Proto), from: p.From, to: p.To}
	switch p.Proto {
	case api.Ping:
		r.part = make([]byte, 8)
		r.part[0] = byte(p.Flags)
		put16(r.part[4:], p.Sport+p.Dport)
		put16(r.part[6:], p.Seq)
	case api.Udp:
		r.part = make([]byte, 8)
		put16(r.part, p.Sport)
		put16(r.part[2:], p.Dport)
		put16(r.part[4:], 8+len(p.Body))
	case api.Tcp:
		r.part = make([]byte, 20)
		put16(r.part, p.Sport)
		put16(r.part[2:], p.Dport)
		put32(r.part[4:], p.Seq)
		put32(r.part[8:], p.Ack)
		r.part[12], r.part[13] = 0x50, byte(p.Flags)
		put16(r.part[14:], p.Win)
	}
	r.part = append(r.part, p.Body...)
	return r
}

func (r raw) seal(part []byte, layout int) {
	at := checkPlace(layout)
	if len(part) < at+2 {
		return
	}
	put16(part[at:], 0)
	ahead := make([]byte, 12)
	if layout != api.Ping {
		put32(ahead, r.from)
		put32(ahead[4:], r.to)
		put16(ahead[8:], int(r.proto))
		put16(ahead[10:], len(part))
	}
	check := 65535 - plainOf(append(ahead, part...))
	if layout == api.Udp && check == 0 {
		check = 65535
	}
	if r.noCheck {
		check = 0
	}
	put16(part[at:], check+r.partOff)
}

// text is the frame; layout is the protocol whose part it has, whatever the head says.
func (r raw) text(layout int) string {
	f := make([]byte, 20, 20+len(r.part))
	f[0], f[1] = r.kind, r.service
	put16(f[2:], 20+len(r.part)-r.cut+r.lengthOff)
	put16(f[4:], r.id)
	f[6], f[7], f[8], f[9] = r.seventh, r.eighth, r.ttl, r.proto
	put32(f[12:], r.from)
	put32(f[16:], r.to)
	put16(f[10:], 65535-plainOf(f)+r.headOff)
	part := append([]byte(nil), r.part...)
	r.seal(part, layout)
	f = append(f, part...)
	return string(f[:len(f)-r.cut])
}

func plainFrame(p api.Packet) string { return rawOf(p).text(p.Proto) }

const (
	insider  = 0x0A000001
	outsider = 0xC6336407
)

var (
	askingPing    = api.Packet{Proto: api.Ping, From: insider, To: outsider, Ttl: 64, Id: 0x1234, Flags: 8, Sport: 0x0102, Seq: 0x0304, Body: "abc"}
	answeringPing = api.Packet{Proto: api.Ping, From: outsider, To: insider, Ttl: 55, Id: 1, Dport: 0x0102, Seq: 0x0304, Body: "abc"}
	someUdp       = api.Packet{Proto: api.Udp, From: insider, Sport: 5000, To: outsider, Dport: 53, Ttl: 64, Id: 7, Body: "hello"}
	someTcp       = api.Packet{Proto: api.Tcp, From: insider, Sport: 40000, To: outsider, Dport: 443, Ttl: 255, Id: 0xFFFF, Flags: 18, Seq: 0x01020304, Ack: 0xA0B0C0D0, Win: 0x7210}
	allKinds      = []api.Packet{askingPing, answeringPing, someUdp, someTcp}
)

func mustBuild(t *testing.T, p api.Packet) string {
	t.Helper()
	f, e := Build(p)
	if e != api.OK {
		t.Fatalf("Build(%+v): %d", p, e)
	}
	return f
}

// anyPacket is a good packet, with edges more often than chance has them.
func anyPacket(r *rand.Rand) api.Packet {
	word := func() int { return []int{0, 1, 65535, r.Intn(65536), r.Intn(65536)}[r.Intn(5)] }
	long := func() int { return []int{0, 1, 1<<32 - 1, r.Intn(1 << 32), r.Intn(1 << 32)}[r.Intn(5)] }
	p := api.Packet{From: long(), To: long(), Id: word(), Ttl: []int{1, 2, 255, 1 + r.Intn(255)}[r.Intn(4)]}
	p.Body = strings.Repeat(string([]byte{byte(r.Intn(256))}), []int{0, 1, 2, 63, 64, r.Intn(65)}[r.Intn(6)])
	switch r.Intn(4) {
	case 0:
		p.Proto, p.Flags, p.Sport, p.Seq = api.Ping, 8, word(), word()
	case 1:
		p.Proto, p.Flags, p.Dport, p.Seq = api.Ping, 0, word(), word()
	case 2:
		p.Proto, p.Sport, p.Dport = api.Udp, word(), word()
	case 3:
		p.Proto, p.Sport, p.Dport = api.Tcp, word(), word()
		p.Flags, p.Seq, p.Ack, p.Win = r.Intn(64), long(), long(), word()
	}
	return p
}
