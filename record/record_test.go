package record

import (
	"math"
	"slices"
	"strings"
	"testing"

	"rentroll/api"
)

// Numbers that are no times, subscribers, addresses, blocks, longs.
var (
	noTimes       = []int{-1, 1<<40 + 1, 1 << 41, math.MinInt, math.MaxInt}
	noSubscribers = []int{-1, 8, 9, -8, math.MinInt, math.MaxInt}
	noAddresses   = []int{-1, 3, 4, -3, math.MinInt, math.MaxInt}
	noBlocks      = []int{-1, 6, 7, -6, math.MinInt, math.MaxInt}
	noLongs       = []int{-1, 1 << 32, 1<<32 + 1, math.MinInt, math.MaxInt}
)

// someBytes is what an event of subscriber 2, address 1 and block 4 has between its time and its last byte.
const someBytes = "\x0a\x00\x00\x03" + "\xcb\x00\x71\x02" + "\x04\x20\x04\x27"

func some(time int) api.Event { return api.Event{Time: time, S: 2, A: 1, Block: 4} }

func given(e api.Event) api.Event {
	e.Free = true
	return e
}

// badEvents is an event that is not good, of each kind, all at the time 5 but for those that are bad by it.
func badEvents() []api.Event {
	var l []api.Event
	for _, time := range noTimes {
		l = append(l, some(time))
	}
	for _, s := range noSubscribers {
		l = append(l, api.Event{Time: 5, S: s, A: 1, Block: 4})
	}
	for _, a := range noAddresses {
		l = append(l, api.Event{Time: 5, S: 2, A: a, Block: 4})
	}
	for _, block := range noBlocks {
		l = append(l, api.Event{Time: 5, S: 2, A: 1, Block: block})
	}
	l = append(l, api.Event{Time: -1, S: 8, A: 3, Block: 6})
	for _, e := range slices.Clone(l) {
		l = append(l, given(e))
	}
	return l
}

func template(t *testing.T, seq int) string {
	t.Helper()
	s, e := Template(seq)
	if e != api.OK {
		t.Fatalf("Template(%d): %d", seq, e)
	}
	return s
}

func tells(t *testing.T, seq int, l ...api.Event) string {
	t.Helper()
	s, e := Message(seq, l)
	if e != api.OK {
		t.Fatalf("Message(%d, %v): %d", seq, l, e)
	}
	return s
}

func tellsNot(t *testing.T, seq int, l []api.Event, want api.Errno) {
	t.Helper()
	if s, e := Message(seq, l); s != "" || e != want {
		t.Errorf("Message(%d, %v): %q, %d; want nothing, %d", seq, l, s, e, want)
	}
}

func reads(t *testing.T, s string, want ...api.Event) {
	t.Helper()
	if l, e := Read(s); !slices.Equal(l, want) || e != api.OK {
		t.Errorf("Read(%q): %v, %d; want %v", s, l, e, want)
	}
}

func readsNot(t *testing.T, s string, want api.Errno) {
	t.Helper()
	if l, e := Read(s); len(l) != 0 || e != want {
		t.Errorf("Read(%q): %v, %d; want nothing, %d", s, l, e, want)
	}
}

// changed is a text with others in the place of some of its bytes.
func changed(s string, at int, others string) string {
	return s[:at] + others + s[at+len(others):]
}

// byHand is a message of any set, its lengths as they must be.
func byHand(time, seq, kind, set string) string {
	return "\x00\x0a" + word(20+len(set)) + time + seq + "\x00\x00\x00\x01" + kind + word(4+len(set)) + set
}

// listByHand is a message of set 300, of the time 5 and the number 0.
func listByHand(set string) string {
	return byHand("\x00\x00\x00\x05", "\x00\x00\x00\x00", "\x01\x2c", set)
}

// eventByHand is an event of the time 5 with other bytes behind that.
func eventByHand(behind string) string { return "\x00\x00\x00\x00\x00\x00\x00\x05" + behind }

// P7.1

func TestGood(t *testing.T) {
	for _, time := range []int{0, 1, 5, 1<<32 - 1, 1 << 32, 1 << 39, 1<<40 - 1, 1 << 40} {
		for i := range 8 * 3 * 6 {
			e := api.Event{Time: time, S: i / 18, A: i / 6 % 3, Block: i % 6}
			if Good(e) != api.OK || Good(given(e)) != api.OK {
				t.Errorf("%v: %d, %d", e, Good(e), Good(given(e)))
			}
		}
	}
}

func TestGoodNot(t *testing.T) {
	for _, e := range badEvents() {
		if wrong := Good(e); wrong != api.ErrRange {
			t.Errorf("%v: %d", e, wrong)
		}
	}
}

// P7.2

func TestNumber(t *testing.T) {
	for seq, want := range map[int]string{
		0:         "\x00\x00\x00\x00",
		1:         "\x00\x00\x00\x01",
		256:       "\x00\x00\x01\x00",
		65536:     "\x00\x01\x00\x00",
		1 << 31:   "\x80\x00\x00\x00",
		1<<32 - 2: "\xff\xff\xff\xfe",
		1<<32 - 1: "\xff\xff\xff\xff",
	} {
		s := template(t, seq)
		if s[8:12] != want || changed(s, 8, "\x00\x00\x00\x00") != template(t, 0) {
			t.Errorf("Template(%d): %q", seq, s)
		}
		s = tells(t, seq, some(5))
		if s[8:12] != want || changed(s, 8, "\x00\x00\x00\x00") != tells(t, 0, some(5)) {
			t.Errorf("Message(%d): %q", seq, s)
		}
	}
}

func TestNumberNoLong(t *testing.T) {
	for _, seq := range noLongs {
		if s, e := Template(seq); s != "" || e != api.ErrRange {
			t.Errorf("Template(%d): %q, %d", seq, s, e)
		}
		tellsNot(t, seq, []api.Event{some(5)}, api.ErrRange)
	}
}

// P7.3

func TestTemplate(t *testing.T) {
	want := "\x00\x0a\x00\x30" + "\x00\x00\x00\x00" + "\x01\x02\x03\x04" + "\x00\x00\x00\x01" +
		"\x00\x02\x00\x20" + "\x01\x2c\x00\x06" +
		"\x01\x43\x00\x08" + "\x00\x08\x00\x04" + "\x00\xe1\x00\x04" +
		"\x01\x69\x00\x02" + "\x01\x6a\x00\x02" + "\x00\xe6\x00\x01"
	if s := template(t, 0x01020304); s != want {
		t.Errorf("%q; want %q", s, want)
	}
}

// P7.4

func TestMessage(t *testing.T) {
	want := "\x00\x0a\x00\x3e" + "\xf1\xf2\xf3\xf4" + "\x01\x02\x03\x04" + "\x00\x00\x00\x01" + "\x01\x2c\x00\x2e" +
		"\x00\x00\x00\xab\xf1\xf2\xf3\xf4" + someBytes + "\x01" +
		"\x00\x00\x00\xab\xf1\xf2\xf3\xf4" + "\x0a\x00\x00\x08" + "\xcb\x00\x71\x03" + "\x04\x28\x04\x2f" + "\x02"
	time := 0xabf1f2f3f4
	got := tells(t, 0x01020304, some(time), api.Event{Time: time, S: 7, A: 2, Block: 5, Free: true})
	if got != want {
		t.Errorf("%q; want %q", got, want)
	}
}

func TestMessageOfEach(t *testing.T) {
	firsts := []string{"\x04\x00\x04\x07", "\x04\x08\x04\x0f", "\x04\x10\x04\x17", "\x04\x18\x04\x1f", "\x04\x20\x04\x27", "\x04\x28\x04\x2f"}
	for i := range 8 * 3 * 6 {
		e := api.Event{Time: 5, S: i / 18, A: i / 6 % 3, Block: i % 6}
		behind := "\x0a\x00\x00" + string(rune(e.S+1)) + "\xcb\x00\x71" + string(rune(e.A+1)) + firsts[e.Block]
		if s, want := tells(t, 0, e), listByHand(eventByHand(behind+"\x01")); s != want {
			t.Errorf("%v: %q; want %q", e, s, want)
		}
		if s, want := tells(t, 0, given(e)), listByHand(eventByHand(behind+"\x02")); s != want {
			t.Errorf("%v: %q; want %q", given(e), s, want)
		}
	}
}

func TestMessageOfTimes(t *testing.T) {
	for time, want := range map[int]string{
		0:           "\x00\x00\x00\x00\x00\x00\x00\x00",
		1<<32 - 1:   "\x00\x00\x00\x00\xff\xff\xff\xff",
		1 << 32:     "\x00\x00\x00\x01\x00\x00\x00\x00",
		1<<40 - 1:   "\x00\x00\x00\xff\xff\xff\xff\xff",
		1 << 40:     "\x00\x00\x01\x00\x00\x00\x00\x00",
		7<<36 + 258: "\x00\x00\x00\x70\x00\x00\x01\x02",
	} {
		s := tells(t, 0, some(time))
		if s[4:8] != want[4:] || s[20:28] != want {
			t.Errorf("%d: %q", time, s)
		}
	}
}

func TestMessageHowMany(t *testing.T) {
	full := slices.Repeat([]api.Event{some(5)}, 64)
	for n := 1; n <= 64; n++ {
		want := listByHand(strings.Repeat(eventByHand(someBytes+"\x01"), n))
		if s := tells(t, 0, full[:n]...); s != want {
			t.Errorf("%d: %q; want %q", n, s, want)
		}
	}
	for _, n := range []int{65, 66, 128, 3120, 70000} {
		tellsNot(t, 0, slices.Repeat(full[:1], n), api.ErrFull)
	}
	tellsNot(t, 0, nil, api.ErrNone)
	tellsNot(t, 0, []api.Event{}, api.ErrNone)
}

func TestMessageOfBad(t *testing.T) {
	for _, bad := range badEvents() {
		tellsNot(t, 0, []api.Event{bad}, api.ErrRange)
		tellsNot(t, 0, []api.Event{bad, bad}, api.ErrRange)
		l := slices.Repeat([]api.Event{some(5)}, 64)
		for _, at := range []int{0, 1, 30, 63} {
			wrong := slices.Clone(l)
			wrong[at] = bad
			tellsNot(t, 0, wrong, api.ErrRange)
		}
	}
}

func TestMessageOfTwoTimes(t *testing.T) {
	for _, other := range []int{4, 6, 0, 1<<32 + 5, 1 << 40} {
		tellsNot(t, 0, []api.Event{some(5), some(other)}, api.ErrRange)
		tellsNot(t, 0, []api.Event{some(5), given(some(5)), some(other)}, api.ErrRange)
		tellsNot(t, 0, []api.Event{some(other), some(5), some(other)}, api.ErrRange)
	}
}

func TestMessageTwoWrongs(t *testing.T) {
	bad := api.Event{Time: -1}
	for _, seq := range noLongs {
		tellsNot(t, seq, nil, api.ErrNone)
		tellsNot(t, seq, slices.Repeat([]api.Event{some(5)}, 65), api.ErrFull)
		tellsNot(t, seq, []api.Event{bad}, api.ErrRange)
	}
	tellsNot(t, 0, slices.Repeat([]api.Event{bad}, 65), api.ErrFull)
	tellsNot(t, 0, append(slices.Repeat([]api.Event{some(5)}, 64), some(6)), api.ErrFull)
}

func TestMessageLeavesItsList(t *testing.T) {
	l := []api.Event{some(5), given(some(5)), some(9), given(some(9))}
	was := slices.Clone(l)
	tells(t, 0, l[:2]...)
	tellsNot(t, 0, l[:3], api.ErrRange)
	if _, e := Owners(l[:2]); e != api.OK || !slices.Equal(l, was) {
		t.Errorf("%v, %d; was %v", l, e, was)
	}
}

// P7.5

func TestReadNothing(t *testing.T) {
	reads(t, "")
	reads(t, template(t, 0))
	reads(t, template(t, 0)+template(t, 0)+template(t, 0))
}

func TestReadWhatWasTold(t *testing.T) {
	for i := range 8 * 3 * 6 {
		e := api.Event{Time: 5, S: i / 18, A: i / 6 % 3, Block: i % 6}
		reads(t, template(t, 0)+tells(t, 0, e), e)
		reads(t, template(t, 0)+tells(t, 0, given(e), e), given(e), e)
	}
	for _, time := range []int{0, 1, 1<<32 - 1, 1 << 32, 1<<32 + 5, 1<<40 - 1, 1 << 40} {
		reads(t, template(t, 0)+tells(t, 0, some(time)), some(time))
	}
	full := slices.Repeat([]api.Event{some(5), given(some(5))}, 32)
	reads(t, template(t, 0)+tells(t, 0, full...), full...)
}

// The number counts events, not messages; a template may be told anew wherever a message begins.
func TestReadSeveral(t *testing.T) {
	s := template(t, 0) + tells(t, 0, some(5), given(some(5)), some(5)) +
		tells(t, 3, given(some(5))) +
		template(t, 4) + template(t, 4) +
		tells(t, 4, some(1<<32+4), given(some(1<<32+4))) +
		tells(t, 6, some(1<<40)) + template(t, 7)
	reads(t, s, some(5), given(some(5)), some(5), given(some(5)), some(1<<32+4), given(some(1<<32+4)), some(1<<40))
}

// Nothing keeps Read to 64 events a message: a word can count more of them.
func TestReadLongMessage(t *testing.T) {
	for _, n := range []int{65, 3119} {
		s := template(t, 0) + listByHand(strings.Repeat(eventByHand(someBytes+"\x02"), n))
		reads(t, s, slices.Repeat([]api.Event{given(some(5))}, n)...)
	}
}

func TestReadLess(t *testing.T) {
	first := template(t, 0)
	second := first + tells(t, 0, some(5), given(some(5)))
	whole := second + tells(t, 2, some(6))
	for n := range len(whole) {
		switch n {
		case 0, len(first):
			reads(t, whole[:n])
		case len(second):
			reads(t, whole[:n], some(5), given(some(5)))
		default:
			readsNot(t, whole[:n], api.ErrForm)
		}
	}
	reads(t, whole, some(5), given(some(5)), some(6))
}

func TestReadMore(t *testing.T) {
	whole := template(t, 0) + tells(t, 0, some(5))
	next := tells(t, 1, some(5))
	for n := 1; n < len(next); n++ {
		readsNot(t, whole+next[:n], api.ErrForm)
		readsNot(t, whole+strings.Repeat("\x00", n), api.ErrForm)
	}
	reads(t, whole+next, some(5), some(5))
	for at := range len(whole) {
		if _, e := Read(whole[:at] + "\x00" + whole[at:]); e == api.OK {
			t.Errorf("a byte more at %d: OK", at)
		}
	}
}

// wantChanged is what each byte of a template, and of a message of one event behind it, is wrong by when it is another one.
func wantChanged(template bool, at int) api.Errno {
	switch {
	case at < 4, at >= 12 && at < 20:
		return api.ErrForm
	case at >= 8 && at < 12:
		return api.ErrSum
	case template:
		return api.ErrKind
	}
	return api.ErrRange
}

func TestReadChanged(t *testing.T) {
	first := template(t, 0)
	whole := first + tells(t, 0, some(5))
	for at := range len(whole) {
		for b := range 256 {
			want := wantChanged(true, at)
			if at >= len(first) {
				want = wantChanged(false, at-len(first))
			}
			s := []byte(whole)
			s[at] = byte(b)
			if string(s) == whole || isAnotherEvent(at-len(first), b) {
				want = api.OK
			}
			if l, e := Read(string(s)); e != want || (len(l) == 1) != (e == api.OK) {
				t.Fatalf("byte %d is %d: %v, %d; want %d", at, b, l, e, want)
			}
		}
	}
}

// isAnotherEvent is whether a message of some(5) with one byte changed tells of another event that is good.
func isAnotherEvent(at, b int) bool {
	switch at {
	case 20 + 3:
		// The message's head does not have this byte of Time.
		return true
	case 20 + 11:
		return 1 <= b && b <= 8
	case 20 + 15:
		return 1 <= b && b <= 3
	case 20 + 20:
		return b == 1 || b == 2
	}
	return false
}

func TestReadAnotherTime(t *testing.T) {
	first := template(t, 0)
	m := tells(t, 0, some(5))
	reads(t, first+changed(m, 23, "\xff"), some(0xff<<32+5))
	reads(t, first+changed(changed(m, 4, "\x00\x00\x00\x00"), 20, "\x00\x00\x01\x00\x00\x00\x00\x00"), some(1<<40))
	readsNot(t, first+changed(m, 20, "\x00\x00\x01\x00\x00\x00\x00\x05"), api.ErrRange)
	readsNot(t, first+changed(changed(m, 4, "\x00\x00\x00\x01"), 20, "\x00\x00\x01\x00\x00\x00\x00\x01"), api.ErrRange)
	readsNot(t, first+changed(m, 20, "\xff"), api.ErrRange)
	readsNot(t, first+changed(m, 20, "\x80"), api.ErrRange)
	readsNot(t, first+changed(m, 4, "\x00\x00\x00\x06"), api.ErrRange)
	readsNot(t, first+changed(m, 4, "\x01"), api.ErrRange)
}

func TestReadHead(t *testing.T) {
	first := template(t, 0)
	m := tells(t, 0, some(5))
	for name, wrong := range map[string]string{
		"another first word":         changed(m, 0, "\x00\x09"),
		"its bytes the other way":    changed(m, 0, "\x0a\x00"),
		"a length of 19":             changed(m, 2, "\x00\x13"),
		"a length of 0":              changed(m, 2, "\x00\x00"),
		"a length that is one less":  changed(m, 2, "\x00\x28"),
		"a length that is one more":  changed(m, 2, "\x00\x2a"),
		"the greatest length":        changed(m, 2, "\xff\xff"),
		"another last long":          changed(m, 12, "\x00\x00\x00\x02"),
		"a last long of 0":           changed(m, 12, "\x00\x00\x00\x00"),
		"set 3":                      changed(m, 16, "\x00\x03"),
		"set 0":                      changed(m, 16, "\x00\x00"),
		"set 299":                    changed(m, 16, "\x01\x2b"),
		"set 301":                    changed(m, 16, "\x01\x2d"),
		"a set that is one less":     changed(m, 18, "\x00\x18"),
		"a set that is one more":     changed(m, 18, "\x00\x1a"),
		"a set without its own four": changed(m, 18, "\x00\x15"),
		"a set of the whole's":       changed(m, 18, "\x00\x29"),
		"a set of 0":                 changed(m, 18, "\x00\x00"),
	} {
		if l, e := Read(first + wrong); len(l) != 0 || e != api.ErrForm {
			t.Errorf("%s: %v, %d", name, l, e)
		}
	}
}

// A message that ends within what stands ahead of its set has none, whatever the bytes behind it say.
func TestReadShortLength(t *testing.T) {
	first := template(t, 0)
	for n := range 20 {
		for _, kind := range []string{"\x00\x02", "\x01\x2c"} {
			s := byHand("\x00\x00\x00\x00", "\x00\x00\x00\x00", kind, first[20:])
			s = changed(changed(s, 2, word(n)), 18, word(n-16))
			for left := n; left <= len(s); left++ {
				if left > 0 {
					readsNot(t, s[:left], api.ErrForm)
					readsNot(t, first+s[:left], api.ErrForm)
				}
			}
		}
	}
}

// A length that is too great for a message is so although others follow it: what is left counts, and then its set's.
func TestReadLengthIntoTheNext(t *testing.T) {
	m := tells(t, 0, some(5))
	longer := changed(m, 2, "\x00\x3e")
	readsNot(t, template(t, 0)+longer+tells(t, 1, some(5)), api.ErrForm)
	readsNot(t, template(t, 0)+changed(longer, 18, "\x00\x2e")+tells(t, 1, some(5)), api.ErrRange)
}

func TestReadNumber(t *testing.T) {
	first := template(t, 0)
	for _, seq := range []int{1, 2, 1<<32 - 1} {
		readsNot(t, template(t, seq), api.ErrSum)
		readsNot(t, tells(t, seq, some(5)), api.ErrSum)
		readsNot(t, first+template(t, seq), api.ErrSum)
		readsNot(t, first+tells(t, seq, some(5)), api.ErrSum)
	}
	two := first + tells(t, 0, some(5), some(5))
	for _, seq := range []int{0, 1, 3, 1<<32 - 1} {
		readsNot(t, two+tells(t, seq, some(5)), api.ErrSum)
		readsNot(t, two+template(t, seq), api.ErrSum)
	}
	reads(t, two+tells(t, 2, some(5)), some(5), some(5), some(5))
	reads(t, two+template(t, 2), some(5), some(5))
}

func TestReadTemplate(t *testing.T) {
	first := template(t, 0)
	set := first[20:]
	for name, wrong := range map[string]string{
		"of another time":     changed(first, 4, "\x00\x00\x00\x01"),
		"of nothing":          byHand("\x00\x00\x00\x00", "\x00\x00\x00\x00", "\x00\x02", ""),
		"a byte less":         byHand("\x00\x00\x00\x00", "\x00\x00\x00\x00", "\x00\x02", set[:27]),
		"a byte more":         byHand("\x00\x00\x00\x00", "\x00\x00\x00\x00", "\x00\x02", set+"\x00"),
		"a pair less":         byHand("\x00\x00\x00\x00", "\x00\x00\x00\x00", "\x00\x02", set[:24]),
		"an event":            byHand("\x00\x00\x00\x05", "\x00\x00\x00\x00", "\x00\x02", eventByHand(someBytes+"\x01")),
		"two pairs the other": changed(first, 40, "\x01\x6a\x00\x02\x01\x69\x00\x02"),
	} {
		if l, e := Read(wrong); len(l) != 0 || e != api.ErrKind {
			t.Errorf("%s: %v, %d", name, l, e)
		}
		if l, e := Read(first + wrong); len(l) != 0 || e != api.ErrKind {
			t.Errorf("a second one, %s: %v, %d", name, l, e)
		}
	}
}

func TestReadWithoutTemplate(t *testing.T) {
	m := tells(t, 0, some(5))
	readsNot(t, m, api.ErrNone)
	readsNot(t, m+template(t, 0), api.ErrNone)
	readsNot(t, m+template(t, 1)+m, api.ErrNone)
}

func TestReadList(t *testing.T) {
	first := template(t, 0)
	event := eventByHand(someBytes + "\x01")
	readsNot(t, first+listByHand(""), api.ErrForm)
	for n := 1; n < 64; n++ {
		if n%21 != 0 {
			readsNot(t, first+listByHand(strings.Repeat(event, 4)[:n]), api.ErrForm)
		}
	}
}

func TestReadEvent(t *testing.T) {
	first := template(t, 0)
	for name, behind := range map[string]string{
		"no subscriber, below":      "\x0a\x00\x00\x00" + someBytes[4:] + "\x01",
		"no subscriber, above":      "\x0a\x00\x00\x09" + someBytes[4:] + "\x01",
		"another inside":            "\x0b\x00\x00\x03" + someBytes[4:] + "\x01",
		"no address, below":         someBytes[:4] + "\xcb\x00\x71\x00" + someBytes[8:] + "\x01",
		"no address, above":         someBytes[:4] + "\xcb\x00\x71\x04" + someBytes[8:] + "\x01",
		"another outside":           someBytes[:4] + "\xcb\x00\x72\x01" + someBytes[8:] + "\x01",
		"no block, below":           someBytes[:8] + "\x03\xf8\x03\xff" + "\x01",
		"a block that lies athwart": someBytes[:8] + "\x03\xff\x04\x06" + "\x01",
		"no block, above":           someBytes[:8] + "\x04\x30\x04\x37" + "\x01",
		"ports of no block":         someBytes[:8] + "\x04\x21\x04\x28" + "\x01",
		"the first port is another": someBytes[:8] + "\x04\x21\x04\x27" + "\x01",
		"the last port is less":     someBytes[:8] + "\x04\x20\x04\x26" + "\x01",
		"the last port is more":     someBytes[:8] + "\x04\x20\x04\x28" + "\x01",
		"ports the other way":       someBytes[:8] + "\x04\x27\x04\x20" + "\x01",
		"no ports":                  someBytes[:8] + "\x00\x00\x00\x00" + "\x01",
		"neither taken nor given":   someBytes + "\x00",
		"both":                      someBytes + "\x03",
		"the greatest byte":         someBytes + "\xff",
	} {
		if l, e := Read(first + listByHand(eventByHand(behind))); len(l) != 0 || e != api.ErrRange {
			t.Errorf("%s: %v, %d", name, l, e)
		}
		good := eventByHand(someBytes + "\x01")
		if l, e := Read(first + listByHand(good+good+eventByHand(behind)+good)); len(l) != 0 || e != api.ErrRange {
			t.Errorf("among others, %s: %v, %d", name, l, e)
		}
	}
}

// Events of one message may be of several times if the head's 32 bits are those of all; they must not fall.
func TestReadTimesInARow(t *testing.T) {
	first := template(t, 0)
	early, late := eventByHand(someBytes+"\x01"), "\x00\x00\x00\x01"+eventByHand(someBytes + "\x02")[4:]
	reads(t, first+listByHand(early+late+late), some(5), given(some(1<<32+5)), given(some(1<<32+5)))
	readsNot(t, first+listByHand(late+early), api.ErrRange)
	readsNot(t, first+listByHand(early+late+early), api.ErrRange)

	reads(t, first+tells(t, 0, some(5))+tells(t, 1, some(5))+tells(t, 2, some(6)), some(5), some(5), some(6))
	readsNot(t, first+tells(t, 0, some(5))+tells(t, 1, some(4)), api.ErrRange)
	readsNot(t, first+tells(t, 0, some(1<<32+5))+tells(t, 1, some(5)), api.ErrRange)
	readsNot(t, first+tells(t, 0, some(1<<32))+tells(t, 1, some(1<<32-1)), api.ErrRange)
	readsNot(t, first+tells(t, 0, some(5))+template(t, 1)+tells(t, 1, some(4)), api.ErrRange)
}

func TestReadTwoWrongs(t *testing.T) {
	first := template(t, 0)
	m := tells(t, 0, some(5))
	badList := listByHand("\x00")
	badEvent := changed(m, 40, "\x03")
	wrongTemplate := changed(first, 47, "\x05")
	other := func(s string) string { return changed(s, 11, "\x01") }
	for name, c := range map[string]struct {
		s    string
		want api.Errno
	}{
		"no set, another number":              {other(changed(first, 16, "\x00\x03")), api.ErrForm},
		"no last long, another number":        {other(changed(first, 15, "\x02")), api.ErrForm},
		"set too short, no template":          {changed(m, 18, "\x00\x18"), api.ErrForm},
		"another number, no template":         {other(m), api.ErrSum},
		"another number, wrong template":      {other(wrongTemplate), api.ErrSum},
		"another number, no events":           {first + other(listByHand("")), api.ErrSum},
		"another number, bad event":           {first + other(badEvent), api.ErrSum},
		"another number, no template, bad":    {other(badList), api.ErrSum},
		"no template, no whole events":        {badList, api.ErrNone},
		"no template, no events":              {listByHand(""), api.ErrNone},
		"no template, bad event":              {badEvent, api.ErrNone},
		"no whole events, bad event":          {first + listByHand(badEvent[20:]+"\x00"), api.ErrForm},
		"wrong template, then less than 16":   {wrongTemplate + "\x00", api.ErrKind},
		"bad event, then less than 16":        {first + badEvent + "\x00", api.ErrRange},
		"no template, then another number":    {m + m, api.ErrNone},
		"another number, then a wrong set":    {first + other(m) + changed(m, 16, "\x00\x03"), api.ErrSum},
		"no whole events, then a bad event":   {first + badList + badEvent, api.ErrForm},
		"good ones, then a bad, then no form": {first + m + other(badEvent) + "\x00", api.ErrRange},
	} {
		if l, e := Read(c.s); len(l) != 0 || e != c.want {
			t.Errorf("%s: %v, %d; want %d", name, l, e, c.want)
		}
	}
}

// P7.6

func owns(t *testing.T, l []api.Event, want api.Pool) {
	t.Helper()
	if p, e := Owners(l); p != want || e != api.OK {
		t.Errorf("Owners(%v): %v, %d; want %v", l, p, e, want)
	}
}

func ownsNot(t *testing.T, l []api.Event, want api.Errno) {
	t.Helper()
	if p, e := Owners(l); p != (api.Pool{}) || e != want {
		t.Errorf("Owners(%v): %v, %d; want nobody, %d", l, p, e, want)
	}
}

func TestOwners(t *testing.T) {
	owns(t, nil, api.Pool{})
	owns(t, []api.Event{}, api.Pool{})
	for i := range 8 * 3 * 6 {
		e := api.Event{Time: i, S: i / 18, A: i / 6 % 3, Block: i % 6}
		var one api.Pool
		one.Owner[e.A][e.Block] = e.S + 1
		owns(t, []api.Event{e}, one)
		owns(t, []api.Event{e, given(e)}, api.Pool{})
		owns(t, []api.Event{e, given(e), e}, one)
		next := e
		next.S = (e.S + 1) % 8
		one.Owner[e.A][e.Block] = next.S + 1
		owns(t, []api.Event{e, given(e), next}, one)
	}
}

func TestOwnersOfAll(t *testing.T) {
	var want api.Pool
	var l []api.Event
	for i := range 18 {
		want.Owner[i/6][i%6] = i%8 + 1
		l = append(l, api.Event{Time: i, S: i % 8, A: i / 6, Block: i % 6})
	}
	owns(t, l, want)
	for i := range 18 {
		want.Owner[i/6][i%6] = 0
		l = append(l, given(l[i]))
		owns(t, l, want)
	}
}

// Nothing is asked of the times but that each is one.
func TestOwnersOfAnyTimes(t *testing.T) {
	owns(t, []api.Event{some(1 << 40), given(some(0))}, api.Pool{})
	many := slices.Repeat([]api.Event{some(5), given(some(3))}, 1000)
	owns(t, many, api.Pool{})
}

func TestOwnersNot(t *testing.T) {
	e := some(5)
	another := e
	another.S = 3
	ownsNot(t, []api.Event{e, e}, api.ErrTwice)
	ownsNot(t, []api.Event{e, another}, api.ErrTwice)
	ownsNot(t, []api.Event{given(e)}, api.ErrNone)
	ownsNot(t, []api.Event{e, given(another)}, api.ErrNone)
	ownsNot(t, []api.Event{e, given(e), given(e)}, api.ErrNone)
	ownsNot(t, []api.Event{e, given(api.Event{Time: 5, S: 2, A: 1, Block: 3})}, api.ErrNone)
	ownsNot(t, []api.Event{e, given(api.Event{Time: 5, S: 2, A: 0, Block: 4})}, api.ErrNone)
	for _, bad := range badEvents() {
		ownsNot(t, []api.Event{bad}, api.ErrRange)
		ownsNot(t, []api.Event{e, bad}, api.ErrRange)
	}
}

// Of several wrong events the first counts.
func TestOwnersTwoWrongs(t *testing.T) {
	e, bad := some(5), api.Event{Time: -1}
	ownsNot(t, []api.Event{e, e, bad}, api.ErrTwice)
	ownsNot(t, []api.Event{e, e, given(e), given(e)}, api.ErrTwice)
	ownsNot(t, []api.Event{given(e), bad}, api.ErrNone)
	ownsNot(t, []api.Event{given(e), e, e}, api.ErrNone)
	ownsNot(t, []api.Event{e, bad, e}, api.ErrRange)
	ownsNot(t, []api.Event{e, some(-1)}, api.ErrRange)
	ownsNot(t, []api.Event{given(some(1<<40 + 1))}, api.ErrRange)
}
