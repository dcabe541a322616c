package wheel

import (
	"math"
	"slices"
	"testing"

	"rentroll/api"
)

// noTimes are numbers that are no times.
var noTimes = []int{-1, -2, api.MaxTime + 1, -api.MaxTime, 1 << 41, 1 << 62, math.MaxInt, math.MinInt}

func at(t *testing.T, now int) *Wheel {
	t.Helper()
	w, e := New(now)
	if e != api.OK || w == nil {
		t.Fatalf("New(%d): %v, %d", now, w, e)
	}
	return w
}

func arm(t *testing.T, w *Wheel, id, due int) {
	t.Helper()
	if e := w.Arm(id, due); e != api.OK {
		t.Fatalf("Arm(%d, %d): %d", id, due, e)
	}
}

// goes is which timers go off up to a time.
func goes(t *testing.T, w *Wheel, to int, want ...int) {
	t.Helper()
	got, e := w.Advance(to)
	if e != api.OK || !slices.Equal(got, want) || w.Now() != to {
		t.Fatalf("Advance(%d): %v, %d, now %d; want %v", to, got, e, w.Now(), want)
	}
}

// stands is the time, how many timers wait, and when these go off.
func stands(t *testing.T, w *Wheel, now, many int, dues map[int]int) {
	t.Helper()
	if w.Now() != now || w.Many() != many {
		t.Errorf("Now %d, Many %d; want %d, %d", w.Now(), w.Many(), now, many)
	}
	for id, want := range dues {
		if due, ok := w.Due(id); due != want || !ok {
			t.Errorf("Due(%d): %d, %v; want %d", id, due, ok, want)
		}
	}
}

func absent(t *testing.T, w *Wheel, ids ...int) {
	t.Helper()
	for _, id := range ids {
		if due, ok := w.Due(id); due != 0 || ok {
			t.Errorf("Due(%d): %d, %v; want none", id, due, ok)
		}
	}
}

// full is a wheel at 50 of MaxTimers timers, 0 on, due at 100 on.
func full(t *testing.T) *Wheel {
	t.Helper()
	w := at(t, 50)
	for id := range api.MaxTimers {
		arm(t, w, id, 100+id)
	}
	return w
}

// P3.1

func TestNew(t *testing.T) {
	for _, now := range []int{0, 1, 10, 63, 64, 4095, 4096, 1 << 36, api.MaxTime - 1, api.MaxTime} {
		w := at(t, now)
		stands(t, w, now, 0, nil)
		absent(t, w, 0, 1, -1, now)
		goes(t, w, now)
	}
}

func TestNewOfNoTime(t *testing.T) {
	for _, now := range noTimes {
		if w, e := New(now); w != nil || e != api.ErrRange {
			t.Errorf("New(%d): %v, %d", now, w, e)
		}
	}
}

func TestWhatWaits(t *testing.T) {
	w := at(t, 7)
	arm(t, w, 3, 9)
	arm(t, w, 0, 7)
	arm(t, w, -4, api.MaxTime)
	stands(t, w, 7, 3, map[int]int{3: 9, 0: 7, -4: api.MaxTime})
	absent(t, w, 1, 4, -3, 9)
	goes(t, w, 8, 0)
	stands(t, w, 8, 2, map[int]int{3: 9, -4: api.MaxTime})
	absent(t, w, 0)
}

// A timer that is due at 0 is told from one that is not there.
func TestDueAtNought(t *testing.T) {
	w := at(t, 0)
	arm(t, w, 5, 0)
	stands(t, w, 0, 1, map[int]int{5: 0})
}

func TestNil(t *testing.T) {
	var w *Wheel
	stands(t, w, 0, 0, nil)
	absent(t, w, 0, 1, -1)
	for _, n := range append([]int{0, 1, 10, api.MaxTime}, noTimes...) {
		if e := w.Arm(1, n); e != api.ErrNone {
			t.Errorf("Arm(1, %d): %d", n, e)
		}
		if e := w.Cancel(n); e != api.ErrNone {
			t.Errorf("Cancel(%d): %d", n, e)
		}
		if l, e := w.Advance(n); len(l) != 0 || e != api.ErrNone {
			t.Errorf("Advance(%d): %v, %d", n, l, e)
		}
	}
}

// A wheel that New has not made must not panic; it is one at 0.
func TestNotMade(t *testing.T) {
	var w Wheel
	stands(t, &w, 0, 0, nil)
	absent(t, &w, 0)
	if e := w.Cancel(0); e != api.ErrNone {
		t.Errorf("Cancel: %d", e)
	}
	goes(t, &w, 0)
	arm(t, &w, 2, 3)
	goes(t, &w, 3, 2)
}

func TestWheelsApart(t *testing.T) {
	v, w := at(t, 1), at(t, 2)
	arm(t, v, 1, 70)
	arm(t, w, 1, 80)
	arm(t, w, 2, 70)
	goes(t, v, 75, 1)
	stands(t, w, 2, 2, map[int]int{1: 80, 2: 70})
	goes(t, w, 75, 2)
	stands(t, v, 75, 0, nil)
}

// P3.2

func TestArm(t *testing.T) {
	w := at(t, 100)
	for id, due := range map[int]int{math.MinInt: 101, -1: 163, 0: 164, 1: 5000, 2: 1 << 30, math.MaxInt: api.MaxTime} {
		arm(t, w, id, due)
		stands(t, w, 100, w.Many(), map[int]int{id: due})
	}
	goes(t, w, 100)
	goes(t, w, 101, math.MinInt)
	goes(t, w, 162)
	goes(t, w, 163, -1)
	goes(t, w, 164, 0)
	goes(t, w, 4999)
	goes(t, w, 5000, 1)
	goes(t, w, 1<<30-1)
	goes(t, w, 1<<30, 2)
	goes(t, w, api.MaxTime-1)
	goes(t, w, api.MaxTime, math.MaxInt)
	stands(t, w, api.MaxTime, 0, nil)
}

func TestArmOver(t *testing.T) {
	w := at(t, 1000)
	for id, due := range []int{0, 1, 500, 999, 1000} {
		arm(t, w, id, due)
	}
	stands(t, w, 1000, 5, map[int]int{0: 1000, 1: 1000, 2: 1000, 3: 1000, 4: 1000})
	arm(t, w, 9, 1001)
	goes(t, w, 1000, 0, 1, 2, 3, 4)
	stands(t, w, 1000, 1, map[int]int{9: 1001})
	// What is over is due now, and not ahead of what is due now.
	arm(t, w, 8, 1000)
	arm(t, w, 9, 3)
	goes(t, w, 2000, 8, 9)
}

func TestArmOverAtTheEnd(t *testing.T) {
	w := at(t, api.MaxTime)
	arm(t, w, 1, 0)
	arm(t, w, 2, api.MaxTime)
	stands(t, w, api.MaxTime, 2, map[int]int{1: api.MaxTime, 2: api.MaxTime})
	goes(t, w, api.MaxTime, 1, 2)
	goes(t, w, api.MaxTime)
}

func TestArmAnew(t *testing.T) {
	dues := []int{0, 9, 10, 11, 63, 64, 65, 300, 4096, 70000, 1 << 36, api.MaxTime}
	for _, first := range dues {
		for _, then := range dues {
			w := at(t, 10)
			arm(t, w, 6, first)
			arm(t, w, 6, then)
			due := max(then, 10)
			stands(t, w, 10, 1, map[int]int{6: due})
			if due > 10 {
				goes(t, w, due-1)
			}
			goes(t, w, due, 6)
			goes(t, w, api.MaxTime)
			stands(t, w, api.MaxTime, 0, nil)
		}
	}
}

// Between the two, time goes on, so that the timer has come down from the list it was put in.
func TestArmAnewLater(t *testing.T) {
	for _, pause := range []int{1, 64, 4095, 4096, 99999} {
		w := at(t, 0)
		arm(t, w, 1, 100000)
		arm(t, w, 2, 100000)
		goes(t, w, pause)
		arm(t, w, 1, 100001)
		goes(t, w, 100000, 2)
		goes(t, w, 100001, 1)
	}
}

func TestArmAgainOnceOff(t *testing.T) {
	w := at(t, 0)
	for n := range 200 {
		arm(t, w, 1, n*7+7)
		goes(t, w, n*7+6)
		goes(t, w, n*7+7, 1)
		absent(t, w, 1)
	}
}

func TestArmRange(t *testing.T) {
	w := at(t, 10)
	arm(t, w, 1, 20)
	for _, due := range noTimes {
		for _, id := range []int{1, 2} {
			if e := w.Arm(id, due); e != api.ErrRange {
				t.Errorf("Arm(%d, %d): %d", id, due, e)
			}
		}
	}
	stands(t, w, 10, 1, map[int]int{1: 20})
	absent(t, w, 2)
	goes(t, w, api.MaxTime, 1)
}

func TestArmFull(t *testing.T) {
	w := full(t)
	for _, id := range []int{api.MaxTimers, -1, math.MaxInt} {
		if e := w.Arm(id, 200); e != api.ErrFull {
			t.Errorf("Arm(%d): %d", id, e)
		}
		// One that would be due now is one more, too.
		if e := w.Arm(id, 0); e != api.ErrFull {
			t.Errorf("Arm(%d) over: %d", id, e)
		}
		if e := w.Cancel(id); e != api.ErrNone {
			t.Errorf("Cancel(%d): %d", id, e)
		}
		absent(t, w, id)
	}
	stands(t, w, 50, api.MaxTimers, map[int]int{0: 100, 399: 499})
	goes(t, w, 99)
}

func TestArmAnewWhenFull(t *testing.T) {
	w := full(t)
	arm(t, w, 0, 1000)
	stands(t, w, 50, api.MaxTimers, map[int]int{0: 1000, 1: 101})
	if e := w.Arm(-1, 1000); e != api.ErrFull {
		t.Errorf("Arm: %d", e)
	}
	goes(t, w, 101, 1)
}

func TestRoomAgain(t *testing.T) {
	w := full(t)
	if e := w.Cancel(7); e != api.OK {
		t.Errorf("Cancel: %d", e)
	}
	arm(t, w, 1000, 100)
	if e := w.Arm(7, 100); e != api.ErrFull {
		t.Errorf("Arm: %d", e)
	}
	goes(t, w, 101, 0, 1000, 1)
	for _, id := range []int{-1, -2, -3} {
		arm(t, w, id, 102)
	}
	if e := w.Arm(-4, 102); e != api.ErrFull {
		t.Errorf("Arm: %d", e)
	}
	goes(t, w, 102, -3, -2, -1, 2)
}

// Two wrongs at once: the due that is no time is named first.
func TestArmRangeWhenFull(t *testing.T) {
	w := full(t)
	for _, due := range noTimes {
		for _, id := range []int{api.MaxTimers, 0} {
			if e := w.Arm(id, due); e != api.ErrRange {
				t.Errorf("Arm(%d, %d): %d", id, due, e)
			}
		}
	}
	stands(t, w, 50, api.MaxTimers, map[int]int{0: 100})
}

func TestCancel(t *testing.T) {
	w := at(t, 10)
	for id, due := range []int{10, 11, 11, 11, 64, 70000, api.MaxTime} {
		arm(t, w, id, due)
	}
	for _, id := range []int{0, 2, 5, 6} {
		if e := w.Cancel(id); e != api.OK {
			t.Errorf("Cancel(%d): %d", id, e)
		}
		absent(t, w, id)
		if e := w.Cancel(id); e != api.ErrNone {
			t.Errorf("Cancel(%d) again: %d", id, e)
		}
	}
	stands(t, w, 10, 3, map[int]int{1: 11, 3: 11, 4: 64})
	goes(t, w, 10)
	goes(t, w, api.MaxTime, 1, 3, 4)
}

func TestCancelNone(t *testing.T) {
	w := at(t, 10)
	arm(t, w, 1, 12)
	arm(t, w, 2, 13)
	for _, id := range []int{0, -1, 3, 12, math.MinInt, math.MaxInt} {
		if e := w.Cancel(id); e != api.ErrNone {
			t.Errorf("Cancel(%d): %d", id, e)
		}
	}
	goes(t, w, 12, 1)
	if e := w.Cancel(1); e != api.ErrNone {
		t.Errorf("Cancel of one that went off: %d", e)
	}
	stands(t, w, 12, 1, map[int]int{2: 13})
}

func TestCancelLater(t *testing.T) {
	for _, pause := range []int{1, 63, 64, 4096, 69999} {
		w := at(t, 0)
		arm(t, w, 1, 70000)
		arm(t, w, 2, 70000)
		goes(t, w, pause)
		if e := w.Cancel(2); e != api.OK {
			t.Errorf("Cancel: %d", e)
		}
		goes(t, w, api.MaxTime, 1)
	}
}

// P3.3

func TestOrder(t *testing.T) {
	w := at(t, 5)
	for _, c := range [][2]int{{4, 9}, {-7, 4096}, {3, 64}, {10, 9}, {9, 9}, {-1, 9}, {2, 4096}, {100, 6}, {1, 63}, {math.MinInt, 4096}, {math.MaxInt, 6}} {
		arm(t, w, c[0], c[1])
	}
	goes(t, w, 4096, 100, math.MaxInt, -1, 4, 9, 10, 1, 3, math.MinInt, -7, 2)
	stands(t, w, 4096, 0, nil)
}

func TestStepOfNothing(t *testing.T) {
	w := at(t, 64)
	goes(t, w, 64)
	arm(t, w, 2, 64)
	arm(t, w, 1, 64)
	arm(t, w, 3, 65)
	goes(t, w, 64, 1, 2)
	goes(t, w, 64)
	stands(t, w, 64, 1, map[int]int{3: 65})
	goes(t, w, 65, 3)
}

func TestEachOnce(t *testing.T) {
	w := at(t, 0)
	arm(t, w, 1, 5)
	goes(t, w, 4)
	goes(t, w, 5, 1)
	goes(t, w, 5)
	goes(t, w, 6)
	goes(t, w, api.MaxTime)
}

func TestStepThatPassesMany(t *testing.T) {
	w := at(t, 0)
	var want []int
	for id := range api.MaxTimers {
		arm(t, w, id, (id*id*id*17)%1000003*999983)
		want = append(want, id)
	}
	due := make(map[int]int)
	for _, id := range want {
		due[id], _ = w.Due(id)
	}
	slices.SortStableFunc(want, func(a, b int) int { return due[a] - due[b] })
	goes(t, w, api.MaxTime, want...)
	stands(t, w, api.MaxTime, 0, nil)
}

func TestOneTickAfterAnother(t *testing.T) {
	w := at(t, 3)
	for id := range api.MaxTimers {
		arm(t, w, -id, 3+id*13)
	}
	goes(t, w, 3, 0)
	for now := 4; now <= 3+400*13; now++ {
		if id := (now - 3) / 13; (now-3)%13 == 0 && id < api.MaxTimers {
			goes(t, w, now, -id)
		} else {
			goes(t, w, now)
		}
	}
	stands(t, w, 3+400*13, 0, nil)
}

func TestFirstAndLastTime(t *testing.T) {
	w := at(t, 0)
	arm(t, w, 1, 0)
	arm(t, w, 2, api.MaxTime)
	arm(t, w, 3, api.MaxTime-1)
	goes(t, w, 0, 1)
	goes(t, w, api.MaxTime-1, 3)
	goes(t, w, api.MaxTime, 2)
	goes(t, w, api.MaxTime)
}

func TestAdvanceRange(t *testing.T) {
	w := at(t, 100)
	arm(t, w, 1, 100)
	arm(t, w, 2, 101)
	for _, to := range append([]int{99, 98, 63, 0}, noTimes...) {
		if l, e := w.Advance(to); len(l) != 0 || e != api.ErrRange {
			t.Errorf("Advance(%d): %v, %d", to, l, e)
		}
	}
	stands(t, w, 100, 2, map[int]int{1: 100, 2: 101})
	goes(t, w, 101, 1, 2)
}

func TestNoWayBack(t *testing.T) {
	w := at(t, api.MaxTime)
	for _, to := range []int{0, api.MaxTime - 1, api.MaxTime + 1} {
		if l, e := w.Advance(to); len(l) != 0 || e != api.ErrRange {
			t.Errorf("Advance(%d): %v, %d", to, l, e)
		}
	}
	goes(t, w, api.MaxTime)
}

func TestAnswersAreTheCallers(t *testing.T) {
	w := at(t, 0)
	for id := range 6 {
		arm(t, w, id, 10+id/3*60)
	}
	first, _ := w.Advance(10)
	for i := range first[:cap(first)] {
		first[:cap(first)][i] = 99
	}
	goes(t, w, 70, 3, 4, 5)
	for _, n := range first {
		if n != 99 {
			t.Errorf("an answer was changed behind: %v", first)
		}
	}
}

// Steps across all of time, there and along the way, must not go through every tick.
func TestWideStepsAreQuick(t *testing.T) {
	for n := range 2000 {
		w := at(t, n)
		arm(t, w, n, api.MaxTime-n)
		goes(t, w, api.MaxTime-n-1)
		goes(t, w, api.MaxTime, n)
	}
}
