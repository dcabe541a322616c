package wire

import (
	"encoding/hex"
	"math"
	"math/rand"
	"strings"
	"testing"

	"rentroll/api"
)

// with is a packet that is changed.
func with(p api.Packet, change func(*api.Packet)) api.Packet {
	change(&p)
	return p
}

// field is one number of a packet, the least and the greatest that it may be, and whether Ping and Udp leave it free.
type field struct {
	name       string
	of         func(*api.Packet) *int
	least      int
	most       int
	everywhere bool
}

var fields = []field{
	{"From", func(p *api.Packet) *int { return &p.From }, 0, 1<<32 - 1, true},
	{"To", func(p *api.Packet) *int { return &p.To }, 0, 1<<32 - 1, true},
	{"Seq", func(p *api.Packet) *int { return &p.Seq }, 0, 1<<32 - 1, false},
	{"Ack", func(p *api.Packet) *int { return &p.Ack }, 0, 1<<32 - 1, false},
	{"Sport", func(p *api.Packet) *int { return &p.Sport }, 0, 65535, false},
	{"Dport", func(p *api.Packet) *int { return &p.Dport }, 0, 65535, false},
	{"Id", func(p *api.Packet) *int { return &p.Id }, 0, 65535, true},
	{"Win", func(p *api.Packet) *int { return &p.Win }, 0, 65535, false},
	{"Ttl", func(p *api.Packet) *int { return &p.Ttl }, 1, 255, true},
	{"Flags", func(p *api.Packet) *int { return &p.Flags }, 0, 63, false},
}

func wantGood(t *testing.T, what string, p api.Packet, want api.Errno) {
	t.Helper()
	if e := Good(p); e != want {
		t.Errorf("%s: Good(%+v) = %d, not %d", what, p, e, want)
	}
}

// P2.1

func TestGoodPackets(t *testing.T) {
	for _, p := range allKinds {
		wantGood(t, "ordinary", p, api.OK)
		for _, n := range []int{0, 1, 63, 64} {
			wantGood(t, "body", with(p, func(p *api.Packet) { p.Body = strings.Repeat("x", n) }), api.OK)
		}
	}
	for _, proto := range []int{api.Ping, api.Udp, api.Tcp} {
		wantGood(t, "empty", api.Packet{Proto: proto, Ttl: 1}, api.OK)
	}
	r := rand.New(rand.NewSource(1))
	for range 2000 {
		wantGood(t, "any", anyPacket(r), api.OK)
	}
}

func TestGoodKind(t *testing.T) {
	for _, proto := range []int{0, 2, 5, 7, 16, 18, 255, 256 + api.Tcp, 1<<32 + api.Udp, -1, -api.Tcp, math.MinInt, math.MaxInt} {
		wantGood(t, "Proto", api.Packet{Proto: proto, Ttl: 1}, api.ErrKind)
	}
}

func TestGoodRange(t *testing.T) {
	for _, p := range allKinds {
		for _, f := range fields {
			for _, n := range []int{f.least - 1, f.most + 1, -1, math.MinInt, math.MaxInt, 1 << 32} {
				wantGood(t, f.name, with(p, func(p *api.Packet) { *f.of(p) = n }), api.ErrRange)
			}
			if f.everywhere || p.Proto == api.Tcp {
				wantGood(t, f.name, with(p, func(p *api.Packet) { *f.of(p) = f.least }), api.OK)
				wantGood(t, f.name, with(p, func(p *api.Packet) { *f.of(p) = f.most }), api.OK)
			}
		}
	}
	wantGood(t, "Sport", with(someUdp, func(p *api.Packet) { p.Sport, p.Dport = 65535, 65535 }), api.OK)
}

func TestGoodLong(t *testing.T) {
	for _, p := range allKinds {
		for _, n := range []int{65, 66, 1000, 1 << 17} {
			wantGood(t, "body", with(p, func(p *api.Packet) { p.Body = strings.Repeat("x", n) }), api.ErrLong)
		}
	}
}

func TestGoodForm(t *testing.T) {
	for _, p := range []api.Packet{askingPing, answeringPing, someUdp} {
		wantGood(t, "Ack", with(p, func(p *api.Packet) { p.Ack = 1 }), api.ErrForm)
		wantGood(t, "Win", with(p, func(p *api.Packet) { p.Win = 1 }), api.ErrForm)
	}
	wantGood(t, "Udp's Seq", with(someUdp, func(p *api.Packet) { p.Seq = 1 }), api.ErrForm)
	for flags := 1; flags < 64; flags++ {
		wantGood(t, "Udp's Flags", with(someUdp, func(p *api.Packet) { p.Flags = flags }), api.ErrForm)
		if flags != 8 {
			bare := api.Packet{Proto: api.Ping, Ttl: 1, Flags: flags}
			wantGood(t, "Ping's Flags", bare, api.ErrForm)
		}
		wantGood(t, "Tcp's Flags", with(someTcp, func(p *api.Packet) { p.Flags = flags }), api.OK)
	}
	wantGood(t, "asks with Dport", with(askingPing, func(p *api.Packet) { p.Dport = 1 }), api.ErrForm)
	wantGood(t, "asks with Dport alone", with(askingPing, func(p *api.Packet) { p.Sport, p.Dport = 0, 1 }), api.ErrForm)
	wantGood(t, "answers with Sport", with(answeringPing, func(p *api.Packet) { p.Sport = 1 }), api.ErrForm)
	wantGood(t, "answers with Sport alone", with(answeringPing, func(p *api.Packet) { p.Sport, p.Dport = 1, 0 }), api.ErrForm)
	for _, p := range []api.Packet{askingPing, answeringPing} {
		wantGood(t, "Ping's Seq", with(p, func(p *api.Packet) { p.Seq = 65535 }), api.OK)
		wantGood(t, "Ping's Seq", with(p, func(p *api.Packet) { p.Seq = 65536 }), api.ErrForm)
		wantGood(t, "Ping's Seq", with(p, func(p *api.Packet) { p.Seq = 1<<32 - 1 }), api.ErrForm)
	}
}

func TestGoodSaysTheFirst(t *testing.T) {
	wrongs := []struct {
		e  api.Errno
		do func(*api.Packet)
	}{
		{api.ErrKind, func(p *api.Packet) { p.Proto = 2 }},
		{api.ErrRange, func(p *api.Packet) { p.Ttl = 0 }},
		{api.ErrLong, func(p *api.Packet) { p.Body = strings.Repeat("x", 65) }},
		{api.ErrForm, func(p *api.Packet) { p.Ack = 1 }},
	}
	for i, first := range wrongs {
		for _, then := range wrongs[i+1:] {
			wantGood(t, "two wrongs", with(with(someUdp, first.do), then.do), first.e)
		}
	}
	all := someUdp
	for _, w := range wrongs {
		w.do(&all)
	}
	wantGood(t, "all wrongs", all, api.ErrKind)
	wantGood(t, "Seq no long, Udp", with(someUdp, func(p *api.Packet) { p.Seq = 1 << 32 }), api.ErrRange)
	wantGood(t, "Seq no long, Ping", with(askingPing, func(p *api.Packet) { p.Seq = -1 }), api.ErrRange)
}

// P2.2, P2.3

func TestBuildWorkedOut(t *testing.T) {
	for _, c := range []struct {
		p    api.Packet
		want string
	}{
		{askingPing, "4500001f123400004001346f0a000001c6336407" + "08002f9701020304" + "616263"},
		{answeringPing, "4500001f0001000037014fa2c63364070a000001" + "0000379701020304" + "616263"},
		{someUdp, "45000021000700004011468a0a000001c6336407" + "13880035000d7409" + "68656c6c6f"},
		{someTcp, "45000028ffff0000ff0687940a000001c6336407" + "9c4001bb01020304a0b0c0d05012721006040000"},
		{api.Packet{Proto: api.Ping, Ttl: 1}, "4500001c0000000001" + "01b9e2" + "0000000000000000" + "0000ffff00000000"},
	} {
		f, e := Build(c.p)
		if got := hex.EncodeToString([]byte(f)); got != c.want || e != api.OK {
			t.Errorf("Build(%+v) = %s, %d, not %s", c.p, got, e, c.want)
		}
	}
}

func TestBuildBodies(t *testing.T) {
	for _, p := range allKinds {
		for n := range api.MaxBody + 1 {
			p.Body = strings.Repeat("\xF1", n)
			f, e := Build(p)
			if f != plainFrame(p) || e != api.OK {
				t.Errorf("Build(%+v) = %x, %d, not %x", p, f, e, plainFrame(p))
			}
		}
	}
}

func TestBuildAny(t *testing.T) {
	r := rand.New(rand.NewSource(2))
	for range 20000 {
		p := anyPacket(r)
		f, e := Build(p)
		if f != plainFrame(p) || e != api.OK {
			t.Fatalf("Build(%+v) = %x, %d, not %x", p, f, e, plainFrame(p))
		}
	}
}

// Through all ports a check comes by 0 once: of Udp 65535 stands there, of the others 0.
func TestBuildCheckOfNought(t *testing.T) {
	for _, c := range []struct {
		p          api.Packet
		at         int
		want, less string
	}{
		{askingPing, 22, "\x00\x00", "\xff\xff"},
		{someUdp, 26, "\xff\xff", "\x00\x00"},
		{someTcp, 36, "\x00\x00", "\xff\xff"},
	} {
		seen := false
		for port := 1; port < 65535; port++ {
			c.p.Sport = port
			f := mustBuild(t, c.p)
			if f[c.at:c.at+2] == c.less {
				t.Errorf("Build(%+v) = %x", c.p, f)
			}
			seen = seen || f[c.at:c.at+2] == c.want
		}
		if !seen {
			t.Errorf("of protocol %d no check was %x", c.p.Proto, c.want)
		}
	}
}

func TestBuildWrong(t *testing.T) {
	for _, c := range []struct {
		p api.Packet
		e api.Errno
	}{
		{api.Packet{}, api.ErrKind},
		{with(someTcp, func(p *api.Packet) { p.Proto = 5 }), api.ErrKind},
		{with(someTcp, func(p *api.Packet) { p.Win = 65536 }), api.ErrRange},
		{with(someUdp, func(p *api.Packet) { p.Ttl = 256 }), api.ErrRange},
		{with(someUdp, func(p *api.Packet) { p.Body = strings.Repeat("x", 65) }), api.ErrLong},
		{with(someUdp, func(p *api.Packet) { p.Flags = 1 }), api.ErrForm},
		{with(askingPing, func(p *api.Packet) { p.Dport = 1 }), api.ErrForm},
		{with(someUdp, func(p *api.Packet) { p.Flags, p.Body = 1, strings.Repeat("x", 65) }), api.ErrLong},
	} {
		if f, e := Build(c.p); f != "" || e != c.e {
			t.Errorf("Build(%+v) = %x, %d, not %d", c.p, f, e, c.e)
		}
	}
}
