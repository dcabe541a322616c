package record

import "rentroll/api"

// reader goes through messages: whoever has its pointer reads on where the last one ended.
type reader struct {
	left      string
	described bool // a template was read
	events    []api.Event
}

// head is what stands ahead of a message's set.
type head struct{ length, time, seq, kind int }

// message reads one message.
func (r *reader) message() api.Errno {
	ahead := r.left
	h, wrong := r.head()
	switch {
	case wrong != api.OK:
		return wrong
	case h.seq != len(r.events):
		return api.ErrSum
	case h.kind == templateSet:
		return r.template(ahead[:h.length], h)
	case !r.described:
		return api.ErrNone
	}
	return r.list(h)
}

// head leaves the reader ahead of a set that is whole, if nothing is wrong.
func (r *reader) head() (head, api.Errno) {
	left := len(r.left)
	if left < headBytes {
		return head{}, api.ErrForm
	}
	var h head
	first := r.number(2)
	h.length = r.number(2)
	h.time = r.number(4)
	h.seq = r.number(4)
	last := r.number(4)
	if first != version || h.length < leastBytes || h.length > left || last != domain {
		return head{}, api.ErrForm
	}
	h.kind = r.number(2)
	length := r.number(2)
	if h.kind != templateSet && h.kind != eventSet || length != h.length-headBytes {
		return head{}, api.ErrForm
	}
	return h, api.OK
}

// template reads the set of a template, and holds the whole of its message against the one that it must be.
func (r *reader) template(whole string, h head) api.Errno {
	// It cannot fail: a number that was read from four bytes is a long.
	want, _ := Template(h.seq)
	if whole != want {
		return api.ErrKind
	}
	r.take(h.length - leastBytes)
	r.described = true
	return api.OK
}

// list reads a set of events.
func (r *reader) list(h head) api.Errno {
	bytes := h.length - leastBytes
	if bytes == 0 || bytes%eventBytes != 0 {
		return api.ErrForm
	}
	for range bytes / eventBytes {
		e, ok := r.event()
		if !ok || lowest(e.Time) != h.time || r.isLater(e.Time) {
			return api.ErrRange
		}
		r.events = append(r.events, e)
	}
	return api.OK
}

// event reads an event; false: no good one has its bytes.
func (r *reader) event() (api.Event, bool) {
	ahead := r.left[:eventBytes]
	var e api.Event
	e.Time = r.number(8)
	e.S = r.number(4) - api.Inside - 1
	e.A = r.number(4) - api.Outside - 1
	e.Block = (r.number(2) - api.FirstPort) / api.BlockSize
	r.take(2)
	e.Free = r.number(1) == isGiven
	if Good(e) != api.OK {
		return api.Event{}, false
	}
	// The bytes say more than was taken of them: where in its block the first port lies, the last one, which last byte.
	return e, string(putEvent(nil, e)) == ahead
}

// isLater is whether the last event that was read is of a later time than one.
func (r *reader) isLater(time int) bool {
	n := len(r.events)
	return n > 0 && r.events[n-1].Time > time
}

// number reads a number of some bytes, which must be left; one of eight may be below 0.
func (r *reader) number(size int) int {
	n := 0
	for _, b := range []byte(r.take(size)) {
		n = n<<8 | int(b)
	}
	return n
}

// take is the next bytes, which must be left.
func (r *reader) take(size int) string {
	bytes := r.left[:size]
	r.left = r.left[size:]
	return bytes
}
