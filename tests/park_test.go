package tests

import (
	"fmt"
	"math"
	"slices"
	"testing"

	"loop.example/g00624/impl"
)

// parkCalls are the calls of chapter 4 that do not ask for the time.
var parkCalls = []struct {
	name string
	do   func(impl.Thread) (impl.Thread, int)
}{
	{"ParkThread", impl.ParkThread},
	{"UnparkThread", impl.UnparkThread},
	{"WakeThread", impl.WakeThread},
}

var timesOut = append([]int{-1, -2, 1000001, 1000002}, farNumbers...)

// runningThreads are of every kind of call, with and without a Permit and a
// Cancel, with all times that are limits, and with something in all other fields.
func runningThreads() []impl.Thread {
	var all []impl.Thread
	for i, k := range callKinds {
		times := []int{0}
		if k.waits {
			times = []int{0, 1, 9, 999999, 1000000}
		}
		for j, until := range times {
			x := impl.Thread{Id: (i + j) % 4, Status: impl.ThRuns, Op: k.op, Arg: k.mostArg(), Pc: 9, Until: until}
			x.Regs = [5]int{7, -impl.MaxWord, impl.MaxWord, 1, -3}
			for flags := range 4 {
				x.Permit, x.Cancel = flags&1 != 0, flags&2 != 0
				all = append(all, x)
			}
		}
	}
	return all
}

func mayWait(x impl.Thread) bool {
	return x.Op == impl.OpPut || x.Op == impl.OpTake || x.Op == impl.OpSwap
}

func waitingThreads() []impl.Thread {
	return slices.DeleteFunc(runningThreads(), func(x impl.Thread) bool { return !mayWait(x) })
}

func parkedThreads() []impl.Thread {
	all := waitingThreads()
	for i := range all {
		all[i].Status = impl.ThParked
	}
	return all
}

func withStatus(x impl.Thread, status int) impl.Thread {
	x.Status = status
	return x
}

func withPermit(x impl.Thread, permit bool) impl.Thread {
	x.Permit = permit
	return x
}

// wantAnswer holds a thread and a code that were answered against what was wanted.
func wantAnswer(t *testing.T, what string, got impl.Thread, code int, want impl.Thread, wantedCode int) {
	t.Helper()
	wantCode(t, what, code, wantedCode)
	wantThread(t, what, got, want)
	if code == impl.OK && !impl.ThreadOK(got) {
		t.Errorf("%s: not right any more: %+v", what, got)
	}
}

func TestParkWithoutPermit(t *testing.T) {
	for _, x := range waitingThreads() {
		if x.Permit {
			continue
		}
		y, code := impl.ParkThread(x)
		wantAnswer(t, "ParkThread", y, code, withStatus(x, impl.ThParked), impl.OK)
	}
}

func TestParkWithPermit(t *testing.T) {
	for _, x := range waitingThreads() {
		if !x.Permit {
			continue
		}
		y, code := impl.ParkThread(x)
		wantAnswer(t, "ParkThread", y, code, withPermit(x, false), impl.OK)
	}
}

// A Permit makes no difference to what is no call that may wait, nor to what is parked.
func TestParkFaults(t *testing.T) {
	for _, x := range idleThreads() {
		y, code := impl.ParkThread(x)
		wantAnswer(t, "ParkThread of an idle one", y, code, x, impl.ErrIdle)
	}
	for _, x := range runningThreads() {
		if mayWait(x) {
			continue
		}
		y, code := impl.ParkThread(x)
		wantAnswer(t, "ParkThread of a call that does not wait", y, code, x, impl.ErrIdle)
	}
	for _, x := range parkedThreads() {
		y, code := impl.ParkThread(x)
		wantAnswer(t, "ParkThread of a parked one", y, code, x, impl.ErrParked)
	}
}

func TestUnpark(t *testing.T) {
	for _, x := range parkedThreads() {
		y, code := impl.UnparkThread(x)
		wantAnswer(t, "UnparkThread of a parked one", y, code, withStatus(x, impl.ThRuns), impl.OK)
	}
	for _, x := range runningThreads() {
		y, code := impl.UnparkThread(x)
		wantAnswer(t, "UnparkThread of a running one", y, code, withPermit(x, mayWait(x)), impl.OK)
	}
	for _, x := range idleThreads() {
		y, code := impl.UnparkThread(x)
		wantAnswer(t, "UnparkThread of an idle one", y, code, x, impl.OK)
	}
}

func TestWake(t *testing.T) {
	for _, x := range parkedThreads() {
		y, code := impl.WakeThread(x)
		wantAnswer(t, "WakeThread of a parked one", y, code, withStatus(x, impl.ThRuns), impl.OK)
	}
	for _, x := range slices.Concat(runningThreads(), idleThreads()) {
		y, code := impl.WakeThread(x)
		wantAnswer(t, "WakeThread of one that is not parked", y, code, x, impl.ErrIdle)
	}
}

// Promise 4, the first half: unparked ahead of parking or behind it, it comes to the same.
func TestPermitIsAsGoodAsAWake(t *testing.T) {
	for _, k := range callKinds[:3] {
		idle, _ := impl.NewThread(2)
		x, _ := impl.BeginCall(idle, k.op, k.mostArg(), 9)
		permitted, code := impl.UnparkThread(x)
		wantAnswer(t, k.word+" unparked", permitted, code, withPermit(x, true), impl.OK)
		ahead, code := impl.ParkThread(permitted)
		wantAnswer(t, k.word+" unparked, then parked", ahead, code, x, impl.OK)

		parked, code := impl.ParkThread(x)
		wantAnswer(t, k.word+" parked", parked, code, withStatus(x, impl.ThParked), impl.OK)
		behind, code := impl.UnparkThread(parked)
		wantAnswer(t, k.word+" parked, then unparked", behind, code, x, impl.OK)
		woken, code := impl.WakeThread(parked)
		wantAnswer(t, k.word+" parked, then woken", woken, code, x, impl.OK)
	}
}

// However often it was unparked there is one Permit, and it is good for once.
func TestPermitsDoNotAddUp(t *testing.T) {
	idle, _ := impl.NewThread(0)
	begun, _ := impl.BeginCall(idle, impl.OpSwap, 5, 0)
	x := begun
	for range 3 {
		y, code := impl.UnparkThread(x)
		wantAnswer(t, "UnparkThread once more", y, code, withPermit(begun, true), impl.OK)
		x = y
	}
	first, code := impl.ParkThread(x)
	wantAnswer(t, "the first ParkThread", first, code, begun, impl.OK)
	second, code := impl.ParkThread(first)
	wantAnswer(t, "the second ParkThread", second, code, withStatus(begun, impl.ThParked), impl.OK)
	third, code := impl.ParkThread(second)
	wantAnswer(t, "the third ParkThread", third, code, second, impl.ErrParked)
}

// Promise 4, the second half: the times just ahead of Until, at it, behind it, and the limits of now.
func TestGivesUpAtItsTime(t *testing.T) {
	rows := []struct {
		until, now int
		over       bool
	}{
		{0, 0, false}, {0, 1, false}, {0, 999999, false}, {0, 1000000, false},
		{1, 0, false}, {1, 1, true}, {1, 2, true}, {1, 1000000, true},
		{9, 0, false}, {9, 8, false}, {9, 9, true}, {9, 10, true}, {9, 1000000, true},
		{999999, 0, false}, {999999, 999998, false}, {999999, 999999, true}, {999999, 1000000, true},
		{1000000, 0, false}, {1000000, 999999, false}, {1000000, 1000000, true},
	}
	seen := 0
	for _, r := range rows {
		for _, x := range slices.Concat(waitingThreads(), parkedThreads()) {
			if x.Until != r.until {
				continue
			}
			seen++
			want := r.over || x.Cancel
			over, code := impl.GivesUp(x, r.now)
			wantCode(t, "GivesUp", code, impl.OK)
			if over != want {
				t.Errorf("GivesUp of %+v at %d is %v", x, r.now, over)
			}
			wanted := x
			if want {
				wanted.Status = impl.ThRuns
			}
			y, code := impl.ExpireThread(x, r.now)
			wantAnswer(t, fmt.Sprint("ExpireThread at ", r.now), y, code, wanted, impl.OK)
		}
	}
	if seen != len(rows)*24 {
		t.Error("threads that were asked:", seen)
	}
}

// What does not wait has no time; only a Cancel, which nothing rules out, makes it give up.
func TestGivesUpOfWhatDoesNotWait(t *testing.T) {
	for _, now := range []int{0, 1, 50, 999999, 1000000} {
		for _, x := range slices.Concat(idleThreads(), runningThreads()) {
			if mayWait(x) {
				continue
			}
			over, code := impl.GivesUp(x, now)
			wantCode(t, "GivesUp", code, impl.OK)
			if over != x.Cancel {
				t.Errorf("GivesUp of %+v at %d is %v", x, now, over)
			}
			y, code := impl.ExpireThread(x, now)
			wantAnswer(t, "ExpireThread of what does not wait", y, code, x, impl.OK)
		}
	}
}

// CancelThread ends the wait at once, and the call gives up at any time.
func TestCancelledGivesUp(t *testing.T) {
	for _, k := range callKinds[:3] {
		idle, _ := impl.NewThread(3)
		x, _ := impl.BeginCall(idle, k.op, 0, 0)
		parked, _ := impl.ParkThread(x)
		if over, code := impl.GivesUp(parked, impl.MaxTime); over || code != impl.OK {
			t.Error(k.word, "without a time gives up ahead of its Cancel:", over, code)
		}
		cancelled, code := impl.CancelThread(parked)
		wantCode(t, "CancelThread", code, impl.OK)
		for _, now := range []int{0, 1, impl.MaxTime} {
			if over, code := impl.GivesUp(cancelled, now); !over || code != impl.OK {
				t.Error(k.word, "does not give up once it was cancelled:", now, over, code)
			}
		}
	}
}

func TestTimesOutOfRange(t *testing.T) {
	for _, x := range slices.Concat(idleThreads(), runningThreads(), parkedThreads()) {
		for _, now := range timesOut {
			over, code := impl.GivesUp(x, now)
			wantCode(t, fmt.Sprint("GivesUp at ", now), code, impl.ErrRange)
			if over {
				t.Errorf("GivesUp of %+v at %d with a code", x, now)
			}
			y, code := impl.ExpireThread(x, now)
			wantAnswer(t, fmt.Sprint("ExpireThread at ", now), y, code, impl.Thread{}, impl.ErrRange)
		}
	}
}

// A bad thread comes ahead of every other fault, and all else is zero.
func TestBadThreadIsNotParked(t *testing.T) {
	for name, x := range badThreads() {
		for _, call := range parkCalls {
			y, code := call.do(x)
			wantAnswer(t, call.name+" of "+name, y, code, impl.Thread{}, impl.ErrBad)
		}
		for _, now := range []int{math.MinInt, -1, 0, 9, impl.MaxTime, impl.MaxTime + 1, math.MaxInt} {
			over, code := impl.GivesUp(x, now)
			wantCode(t, "GivesUp of "+name, code, impl.ErrBad)
			if over {
				t.Error("GivesUp with a code:", name)
			}
			y, code := impl.ExpireThread(x, now)
			wantAnswer(t, "ExpireThread of "+name, y, code, impl.Thread{}, impl.ErrBad)
		}
	}
}
