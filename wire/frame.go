package wire

import (
	"rentroll/api"
	"rentroll/sums"
)

const (
	headKind  = 0x45
	tcpKind   = 0x50
	headBytes = 20
)

// Places in the head.
const (
	atService = 1
	atLength  = 2
	atId      = 4
	atPieces  = 6
	atTtl     = 8
	atProto   = 9
	atCheck   = 10
	atFrom    = 12
	atTo      = 16
)

// oneTtl is what one less to live takes from the word that it is the higher byte of.
const oneTtl = 1 << 8

// partBytes is how many bytes stand between head and body; 0 of what is none of the three protocols.
func partBytes(proto int) int {
	switch proto {
	case api.Ping, api.Udp:
		return 8
	case api.Tcp:
		return 20
	}
	return 0
}

// checkAt is where in a frame the check of what stands behind its head is.
func checkAt(proto int) int {
	switch proto {
	case api.Ping:
		return headBytes + 2
	case api.Udp:
		return headBytes + 6
	}
	return headBytes + 16
}

// portAt is where in a frame the port of a side is; a Ping has one identifier for both.
func portAt(proto, side int) int {
	if proto == api.Ping {
		return headBytes + 4
	}
	return headBytes + 2*side
}

// checked is all that the check behind the head is of.
func checked(f string, proto int) string {
	part := f[headBytes:]
	if proto == api.Ping {
		return part
	}
	t := &frame{}
	t.addText(f[atFrom:headBytes])
	t.addWord(proto)
	t.addWord(len(part))
	t.addText(part)
	return t.text()
}

// frame is written upon by whoever has its pointer.
type frame struct {
	bytes []byte
}

func (t *frame) text() string { return string(t.bytes) }

func (t *frame) addText(b string) { t.bytes = append(t.bytes, b...) }

func (t *frame) addBytes(b ...byte) { t.bytes = append(t.bytes, b...) }

func (t *frame) addWord(n int) { t.addBytes(byte(n>>8), byte(n)) }

func (t *frame) addLong(n int) {
	t.addWord(n >> 16)
	t.addWord(n)
}

// addHead leaves the check's place empty, as sealHead wants it.
func (t *frame) addHead(p api.Packet, length int) {
	t.addBytes(headKind, 0)
	t.addWord(length)
	t.addWord(p.Id)
	t.addWord(0)
	t.addBytes(byte(p.Ttl), byte(p.Proto))
	t.addWord(0)
	t.addLong(p.From)
	t.addLong(p.To)
}

// addPart leaves the check's place empty, as sealPart wants it.
func (t *frame) addPart(p api.Packet) {
	switch p.Proto {
	case api.Ping:
		t.addBytes(byte(p.Flags), 0)
		t.addWord(0)
		t.addWord(p.Sport + p.Dport)
		t.addWord(p.Seq)
	case api.Udp:
		t.addWord(p.Sport)
		t.addWord(p.Dport)
		t.addWord(partBytes(api.Udp) + len(p.Body))
		t.addWord(0)
	case api.Tcp:
		t.addWord(p.Sport)
		t.addWord(p.Dport)
		t.addLong(p.Seq)
		t.addLong(p.Ack)
		t.addBytes(tcpKind, byte(p.Flags))
		t.addWord(p.Win)
		t.addWord(0)
		t.addWord(0)
	}
}

func (t *frame) word(at int) int { return int(t.bytes[at])<<8 | int(t.bytes[at+1]) }

func (t *frame) setWord(at, n int) {
	t.bytes[at] = byte(n >> 8)
	t.bytes[at+1] = byte(n)
}

// sealHead works the head's check out from the whole head.
func (t *frame) sealHead() {
	t.setWord(atCheck, 0)
	t.setWord(atCheck, sums.Check(string(t.bytes[:headBytes])))
}

// sealPart works the check of what stands behind the head out from all of it.
func (t *frame) sealPart(proto int) {
	at := checkAt(proto)
	t.setWord(at, 0)
	check := sums.Check(checked(t.text(), proto))
	if proto == api.Udp && check == 0 {
		check = maxWord
	}
	t.setWord(at, check)
}

// change writes another word, and what that makes of the checks that it is in.
func (t *frame) change(at, n int, checks ...int) {
	for _, c := range checks {
		t.setWord(c, sums.Update(t.word(c), t.word(at), n))
	}
	t.setWord(at, n)
}

// age takes one from the time to live.
func (t *frame) age() { t.change(atTtl, t.word(atTtl)-oneTtl, atCheck) }

// readdress changes where a frame comes from (side 1: goes to).
func (t *frame) readdress(proto, side, addr, port int) {
	checks := []int{atCheck}
	if proto != api.Ping {
		checks = append(checks, checkAt(proto))
	}
	at := atFrom + (atTo-atFrom)*side
	t.change(at, addr>>16, checks...)
	t.change(at+2, addr&maxWord, checks...)
	t.change(portAt(proto, side), port, checkAt(proto))
}

// settle seals anew where the check behind the head came to 0 or 65535: a change from word to word does not tell these two apart, but only one of them is what Build writes. The head's check needs none: age writes a word that is not 0, as the protocol stands in it, and behind such a change the check is never 65535, nor is it where Build seals a head.
func (t *frame) settle(proto int) {
	if twofold(t.word(checkAt(proto))) {
		t.sealPart(proto)
	}
}

func twofold(check int) bool { return check == 0 || check == maxWord }
