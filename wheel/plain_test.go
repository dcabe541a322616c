package wheel

import (
	"math"
	"math/rand"
	"slices"
	"sort"
	"testing"

	"rentroll/api"
)

// plain is the document's words on a wheel taken by their letter, as a measure that shares nothing with the package.
type plain struct {
	now    int
	timers map[int]int
}

func plainTime(n int) bool { return n >= 0 && n <= 1<<40 }

func (p *plain) arm(id, due int) api.Errno {
	if !plainTime(due) {
		return api.ErrRange
	}
	if _, ok := p.timers[id]; !ok && len(p.timers) == 400 {
		return api.ErrFull
	}
	if due < p.now {
		due = p.now
	}
	p.timers[id] = due
	return api.OK
}

func (p *plain) cancel(id int) api.Errno {
	if _, ok := p.timers[id]; !ok {
		return api.ErrNone
	}
	delete(p.timers, id)
	return api.OK
}

func (p *plain) advance(to int) ([]int, api.Errno) {
	if to < p.now || !plainTime(to) {
		return nil, api.ErrRange
	}
	p.now = to
	var off [][2]int
	for id, due := range p.timers {
		if due <= to {
			off = append(off, [2]int{due, id})
		}
	}
	sort.Slice(off, func(i, j int) bool {
		if off[i][0] != off[j][0] {
			return off[i][0] < off[j][0]
		}
		return off[i][1] < off[j][1]
	})
	var ids []int
	for _, o := range off {
		ids = append(ids, o[1])
		delete(p.timers, o[1])
	}
	return ids, api.OK
}

// same holds all that a wheel tells against the measure, and that it keeps no more than that.
func same(t *testing.T, w *Wheel, p *plain) {
	t.Helper()
	if w.Now() != p.now || w.Many() != len(p.timers) {
		t.Fatalf("Now %d, Many %d; want %d, %d", w.Now(), w.Many(), p.now, len(p.timers))
	}
	for id, want := range p.timers {
		if due, ok := w.Due(id); due != want || !ok {
			t.Fatalf("Due(%d): %d, %v; want %d", id, due, ok, want)
		}
	}
	kept := 0
	for _, level := range w.lists {
		for _, list := range level {
			kept += len(list)
			if len(list) == 0 && list != nil {
				t.Fatal("an empty list keeps its room")
			}
		}
	}
	if kept != len(p.timers) {
		t.Fatalf("%d timers in the lists, %d wait", kept, len(p.timers))
	}
}

// pick is a number at any width: one near now, one anywhere, one at a bound.
func pick(r *rand.Rand, now int) int {
	switch r.Intn(12) {
	case 0:
		return []int{0, 1 << 40, -1, 1<<40 + 1, math.MinInt, math.MaxInt, now - 1, now}[r.Intn(8)]
	case 1:
		return r.Intn(1<<40 + 1)
	case 2:
		return (now/64+1)*64 + r.Intn(3) - 1
	case 3:
		return (now/4096+1)*4096 + r.Intn(3) - 1
	}
	return now + r.Intn(1<<r.Intn(37))
}

func walk(t *testing.T, seed int64, ids, steps int) {
	r := rand.New(rand.NewSource(seed))
	now := r.Intn(1 << r.Intn(40))
	w, e := New(now)
	if e != api.OK {
		t.Fatal(e)
	}
	p := &plain{now: now, timers: map[int]int{}}
	for range steps {
		id := r.Intn(ids) - ids/2
		switch k := r.Intn(20); {
		case k < 13:
			due := pick(r, p.now)
			if got, want := w.Arm(id, due), p.arm(id, due); got != want {
				t.Fatalf("Arm(%d, %d): %d; want %d", id, due, got, want)
			}
		case k < 16:
			if got, want := w.Cancel(id), p.cancel(id); got != want {
				t.Fatalf("Cancel(%d): %d; want %d", id, got, want)
			}
		default:
			to := pick(r, p.now)
			// The end of time is seldom wanted: nothing can be armed behind it.
			if to >= 1<<39 && r.Intn(4) > 0 {
				to = p.now + r.Intn(100)
			}
			got, code := w.Advance(to)
			want, wantCode := p.advance(to)
			if code != wantCode || !slices.Equal(got, want) {
				t.Fatalf("Advance(%d): %v, %d; want %v, %d", to, got, code, want, wantCode)
			}
		}
		same(t, w, p)
	}
}

func TestWalks(t *testing.T) {
	for seed := range int64(150) {
		walk(t, seed, 12, 150)
	}
	for seed := range int64(10) {
		walk(t, 1000+seed, 1000, 1500)
	}
}

// TestEveryStep goes from a time to another across each bound of the digits, with a timer at each side of it.
func TestEveryStep(t *testing.T) {
	var times []int
	for b := range 41 {
		for _, d := range []int{-1, 0, 1} {
			if n := 1<<b + d; plainTime(n) {
				times = append(times, n)
			}
		}
	}
	for _, from := range times {
		for _, to := range times {
			if to < from {
				continue
			}
			w, _ := New(from)
			p := &plain{now: from, timers: map[int]int{}}
			for id, due := range times {
				w.Arm(id, due)
				p.arm(id, due)
			}
			got, _ := w.Advance(to)
			if want, _ := p.advance(to); !slices.Equal(got, want) {
				t.Fatalf("from %d to %d: %v; want %v", from, to, got, want)
			}
			same(t, w, p)
			got, _ = w.Advance(1 << 40)
			if want, _ := p.advance(1 << 40); !slices.Equal(got, want) {
				t.Fatalf("from %d over %d to the end: %v; want %v", from, to, got, want)
			}
			same(t, w, p)
		}
	}
}
