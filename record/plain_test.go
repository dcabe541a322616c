package record

import (
	"encoding/binary"
	"math"
	"math/rand"
	"slices"
	"testing"

	"rentroll/api"
)

// What follows is the document's words on messages and events taken by their letter, as a measure that shares nothing with the package.

func plainGood(e api.Event) api.Errno {
	if e.Time < 0 || e.Time > 1<<40 || uint(e.S) > 7 || uint(e.A) > 2 || uint(e.Block) > 5 {
		return api.ErrRange
	}
	return api.OK
}

func word(n int) string { return string(binary.BigEndian.AppendUint16(nil, uint16(n))) }

func long(n int) string { return string(binary.BigEndian.AppendUint32(nil, uint32(n))) }

func eight(n int) string { return string(binary.BigEndian.AppendUint64(nil, uint64(n))) }

func plainMessage(time, seq, set int, follow string) string {
	n := 4 + len(follow)
	return word(10) + word(16+n) + long(time%(1<<32)) + long(seq) + long(1) + word(set) + word(n) + follow
}

func plainTemplate(seq int) (string, api.Errno) {
	if seq < 0 || seq >= 1<<32 {
		return "", api.ErrRange
	}
	follow := ""
	for _, n := range []int{300, 6, 323, 8, 8, 4, 225, 4, 361, 2, 362, 2, 230, 1} {
		follow += word(n)
	}
	return plainMessage(0, seq, 2, follow), api.OK
}

func plainEvent(e api.Event) string {
	last := map[bool]string{false: "\x01", true: "\x02"}[e.Free]
	ports := word(1024+8*e.Block) + word(1024+8*e.Block+7)
	return eight(e.Time) + string([]byte{10, 0, 0, byte(1 + e.S)}) + string([]byte{203, 0, 113, byte(1 + e.A)}) + ports + last
}

func plainTell(seq int, l []api.Event) (string, api.Errno) {
	if len(l) == 0 {
		return "", api.ErrNone
	}
	if len(l) >= 65 {
		return "", api.ErrFull
	}
	follow := ""
	for _, e := range l {
		if plainGood(e) != api.OK || e.Time != l[0].Time {
			return "", api.ErrRange
		}
		follow += plainEvent(e)
	}
	if seq < 0 || seq >= 1<<32 {
		return "", api.ErrRange
	}
	return plainMessage(l[0].Time, seq, 300, follow), api.OK
}

// plainEvents is all events of the time 0, by what stands behind their time.
func plainEvents() map[string]api.Event {
	all := map[string]api.Event{}
	for i := range 8 * 3 * 6 * 2 {
		e := api.Event{S: i / 36, A: i / 12 % 3, Block: i / 2 % 6, Free: i%2 == 1}
		all[plainEvent(e)[8:]] = e
	}
	return all
}

func plainRead(all map[string]api.Event, s string) ([]api.Event, api.Errno) {
	var l []api.Event
	told := false
	for at := 0; at < len(s); {
		left := s[at:]
		if len(left) < 16 || left[:2] != word(10) || left[12:16] != long(1) {
			return nil, api.ErrForm
		}
		n := int(binary.BigEndian.Uint16([]byte(left[2:4])))
		if n < 20 || n > len(left) {
			return nil, api.ErrForm
		}
		m := left[:n]
		at += n
		if m[16:18] != word(2) && m[16:18] != word(300) || m[18:20] != word(n-16) {
			return nil, api.ErrForm
		}
		if m[8:12] != long(len(l)) {
			return nil, api.ErrSum
		}
		if m[16:18] == word(2) {
			if want, _ := plainTemplate(len(l)); m != want {
				return nil, api.ErrKind
			}
			told = true
			continue
		}
		if !told {
			return nil, api.ErrNone
		}
		if n == 20 || (n-20)%21 != 0 {
			return nil, api.ErrForm
		}
		for i := 20; i < n; i += 21 {
			e, ok := all[m[i+8:i+21]]
			time := binary.BigEndian.Uint64([]byte(m[i : i+8]))
			if !ok || time > 1<<40 || m[i+4:i+8] != m[4:8] {
				return nil, api.ErrRange
			}
			e.Time = int(time)
			if len(l) > 0 && l[len(l)-1].Time > e.Time {
				return nil, api.ErrRange
			}
			l = append(l, e)
		}
	}
	return l, api.OK
}

func plainOwners(l []api.Event) (api.Pool, api.Errno) {
	who := map[[2]int]int{}
	for _, e := range l {
		if wrong := plainGood(e); wrong != api.OK {
			return api.Pool{}, wrong
		}
		block := [2]int{e.A, e.Block}
		s, ok := who[block]
		if !e.Free && ok {
			return api.Pool{}, api.ErrTwice
		}
		if e.Free && (!ok || s != e.S) {
			return api.Pool{}, api.ErrNone
		}
		if e.Free {
			delete(who, block)
		} else {
			who[block] = e.S
		}
	}
	var p api.Pool
	for block, s := range who {
		p.Owner[block[0]][block[1]] = s + 1
	}
	return p, api.OK
}

func anyTime(r *rand.Rand) int {
	switch r.Intn(4) {
	case 0:
		return r.Intn(3)
	case 1:
		return r.Intn(4)<<32 + r.Intn(3)
	case 2:
		return 1<<40 - r.Intn(3)
	}
	return r.Intn(1<<40 + 1)
}

func anyEvent(r *rand.Rand) api.Event {
	return api.Event{Time: anyTime(r), S: r.Intn(8), A: r.Intn(3), Block: r.Intn(6), Free: r.Intn(2) == 0}
}

// spoilt is an event with another number somewhere, most of them out of their bounds.
func spoilt(r *rand.Rand, e api.Event) api.Event {
	n := []int{-1, 3, 6, 8, 1<<40 + 1, 1 << 32, math.MinInt, math.MaxInt}[r.Intn(8)]
	*[]*int{&e.Time, &e.S, &e.A, &e.Block}[r.Intn(4)] = n
	return e
}

func anySeq(r *rand.Rand) int {
	if r.Intn(6) == 0 {
		return []int{-1, 1 << 32, 1<<32 - 1, math.MinInt, math.MaxInt}[r.Intn(5)]
	}
	return r.Intn(1 << 32)
}

// TestAnyMessage holds Good, Template and Message against the measure.
func TestAnyMessage(t *testing.T) {
	r := rand.New(rand.NewSource(7))
	for range 20000 {
		seq, time := anySeq(r), anyTime(r)
		var l []api.Event
		for range r.Intn(67) {
			e := anyEvent(r)
			e.Time = time
			l = append(l, e)
		}
		if len(l) > 0 && r.Intn(4) == 0 {
			at := r.Intn(len(l))
			l[at] = spoilt(r, l[at])
			if Good(l[at]) != plainGood(l[at]) {
				t.Fatalf("Good(%v): %d", l[at], Good(l[at]))
			}
		}
		got, gotE := Message(seq, l)
		if want, wantE := plainTell(seq, l); got != want || gotE != wantE {
			t.Fatalf("Message(%d, %v): %q, %d; want %q, %d", seq, l, got, gotE, want, wantE)
		}
		got, gotE = Template(seq)
		if want, wantE := plainTemplate(seq); got != want || gotE != wantE {
			t.Fatalf("Template(%d): %q, %d; want %q, %d", seq, got, gotE, want, wantE)
		}
	}
}

// anyMessages is messages one behind the other, nearly all as they must be, and the events of theirs.
func anyMessages(r *rand.Rand) (string, []api.Event) {
	s, _ := plainTemplate(0)
	if r.Intn(20) == 0 {
		s = ""
	}
	var l []api.Event
	time := anyTime(r)
	for range r.Intn(5) {
		seq := len(l)
		if r.Intn(12) == 0 {
			seq = r.Intn(5)
		}
		if r.Intn(5) == 0 {
			m, _ := plainTemplate(seq)
			s += m
			continue
		}
		if r.Intn(12) == 0 {
			time = anyTime(r)
		} else {
			time += r.Intn(3) * r.Intn(1+(1<<40-time)/2)
		}
		var some []api.Event
		follow := ""
		for range 1 + r.Intn(4) {
			e := anyEvent(r)
			e.Time = time
			some = append(some, e)
			follow += plainEvent(e)
		}
		s += plainMessage(time, seq, 300, follow)
		l = append(l, some...)
	}
	return s, l
}

// broken is messages in which something small is another.
func broken(r *rand.Rand, s string) string {
	b := []byte(s)
	at := r.Intn(len(b))
	switch r.Intn(6) {
	case 0:
		b[at] = byte(r.Intn(256))
	case 1:
		b[at] += byte(1 - 2*r.Intn(2))
	case 2:
		b = b[:at]
	case 3:
		b = b[at:]
	case 4:
		b = slices.Insert(b, at, byte(r.Intn(4)))
	case 5:
		b = slices.Delete(b, at, at+1)
	}
	return string(b)
}

// TestAnyRead holds Read against the measure, at messages as they were told, and at such as were broken once or more.
func TestAnyRead(t *testing.T) {
	r := rand.New(rand.NewSource(8))
	all := plainEvents()
	seen := map[api.Errno]int{}
	for range 60000 {
		s, told := anyMessages(r)
		for range r.Intn(3) {
			if len(s) > 0 {
				s = broken(r, s)
			}
		}
		got, gotE := Read(s)
		want, wantE := plainRead(all, s)
		if !slices.Equal(got, want) || gotE != wantE {
			t.Fatalf("Read(%q), told %v: %v, %d; want %v, %d", s, told, got, gotE, want, wantE)
		}
		seen[gotE]++
	}
	for _, e := range []api.Errno{api.OK, api.ErrForm, api.ErrSum, api.ErrKind, api.ErrNone, api.ErrRange} {
		if seen[e] < 100 {
			t.Errorf("error %d was met %d times", e, seen[e])
		}
	}
}

// TestAnyOwners holds Owners against the measure, at blocks that are mostly taken and given back as they may be.
func TestAnyOwners(t *testing.T) {
	r := rand.New(rand.NewSource(9))
	for range 20000 {
		var l []api.Event
		var p api.Pool
		for range r.Intn(60) {
			e := anyEvent(r)
			if owner := p.Owner[e.A][e.Block]; r.Intn(40) > 0 {
				e.Free = owner != 0
				if e.Free {
					e.S = owner - 1
				}
			}
			p.Owner[e.A][e.Block] = 0
			if !e.Free {
				p.Owner[e.A][e.Block] = e.S + 1
			}
			if r.Intn(100) == 0 {
				e = spoilt(r, e)
			}
			l = append(l, e)
		}
		got, gotE := Owners(l)
		if want, wantE := plainOwners(l); got != want || gotE != wantE {
			t.Fatalf("Owners(%v): %v, %d; want %v, %d", l, got, gotE, want, wantE)
		}
	}
}
