package tests

import (
	"fmt"
	"math"
	"strings"
	"testing"

	"loop.example/g00624/impl"
)

type callKind struct {
	op            int
	word          string
	brings, waits bool
}

var callKinds = []callKind{
	{1, "put", true, true},
	{2, "take", false, true},
	{3, "swap", true, true},
	{4, "push", true, false},
	{5, "pop", false, false},
	{6, "count", false, false},
}

var farNumbers = []int{math.MinInt, math.MinInt + 1, -impl.MaxWord - 1, impl.MaxWord + 1, math.MaxInt - 1, math.MaxInt}

func (k callKind) mostArg() int {
	if k.brings {
		return 999
	}
	return 0
}

func (k callKind) mostUntil() int {
	if k.waits {
		return 1000000
	}
	return 0
}

func idleThreads() []impl.Thread {
	var all []impl.Thread
	for id := range 4 {
		for _, code := range []int{0, 1, impl.ErrTimeout, 19} {
			for _, result := range []int{0, 1, 999, impl.MaxWord} {
				all = append(all, impl.Thread{Id: id, Code: code, Result: result})
			}
		}
	}
	return all
}

// busyThreads have all limits of what a thread in a call may have.
func busyThreads() []impl.Thread {
	var all []impl.Thread
	for i, k := range callKinds {
		x := impl.Thread{Id: i % 4, Status: impl.ThRuns, Op: k.op}
		y := impl.Thread{Id: 3, Status: impl.ThRuns, Op: k.op, Arg: k.mostArg(), Pc: 16, Until: k.mostUntil()}
		y.Regs = [5]int{impl.MaxWord, -impl.MaxWord, 0, 1, -impl.MaxWord}
		z := y
		z.Permit, z.Cancel = true, true
		all = append(all, x, y, z)
		if k.waits {
			x.Status, y.Status, z.Status = impl.ThParked, impl.ThParked, impl.ThParked
			all = append(all, x, y, z)
		}
	}
	return all
}

func badThreads() map[string]impl.Thread {
	put := impl.Thread{Status: impl.ThRuns, Op: impl.OpPut}
	bad := map[string]impl.Thread{
		"idle with put":        {Op: impl.OpPut},
		"idle with an Arg":     {Arg: 1},
		"idle with a Pc":       {Pc: 1},
		"idle with a time":     {Until: 1},
		"idle with a permit":   {Permit: true},
		"idle and cancelled":   {Cancel: true},
		"runs without a call":  {Status: impl.ThRuns},
		"parked without one":   {Status: impl.ThParked},
		"a parked push":        {Status: impl.ThParked, Op: impl.OpPush},
		"a parked pop":         {Status: impl.ThParked, Op: impl.OpPop},
		"a parked count":       {Status: impl.ThParked, Op: impl.OpCount},
		"a call that is none":  {Status: impl.ThRuns, Op: 7},
		"a call below":         {Status: impl.ThRuns, Op: -1},
		"a code in a call":     {Status: impl.ThRuns, Op: impl.OpPut, Code: 1},
		"a result in a call":   {Status: impl.ThRuns, Op: impl.OpPut, Result: 1},
		"a code while parked":  {Status: impl.ThParked, Op: impl.OpTake, Code: 12},
		"a result when parked": {Status: impl.ThParked, Op: impl.OpTake, Result: 1},
		"idle, code 20":        {Code: 20},
		"idle, code -1":        {Code: -1},
		"idle, result -1":      {Result: -1},
		"idle, result above":   {Result: impl.MaxWord + 1},
		"Status 3":             {Status: 3, Op: impl.OpPut},
		"Status -1":            {Status: -1, Op: impl.OpPut},
		"Status 3, else idle":  {Status: 3},
		"Id 4":                 {Id: 4},
		"Id -1":                {Id: -1},
		"Pc 17":                {Status: impl.ThRuns, Op: impl.OpPut, Pc: 17},
		"Pc -1":                {Status: impl.ThParked, Op: impl.OpPut, Pc: -1},
	}
	for i := range put.Regs {
		for _, v := range []int{impl.MaxWord + 1, -impl.MaxWord - 1, math.MaxInt, math.MinInt} {
			x := put
			x.Regs[i] = v
			bad[fmt.Sprintf("register %d is %d", i, v)] = x
		}
		var x impl.Thread
		x.Regs[i] = 1
		bad[fmt.Sprintf("idle with register %d", i)] = x
	}
	for i, v := range farNumbers {
		bad[fmt.Sprint("far Id ", i)] = impl.Thread{Id: v}
		bad[fmt.Sprint("far Status ", i)] = impl.Thread{Status: v, Op: impl.OpPut}
		bad[fmt.Sprint("far Op ", i)] = impl.Thread{Status: impl.ThRuns, Op: v}
		bad[fmt.Sprint("far Pc ", i)] = impl.Thread{Status: impl.ThRuns, Op: impl.OpPut, Pc: v}
		bad[fmt.Sprint("far Code ", i)] = impl.Thread{Code: v}
		bad[fmt.Sprint("far Result ", i)] = impl.Thread{Result: v}
	}
	for _, k := range callKinds {
		for _, v := range append([]int{-1, k.mostArg() + 1}, farNumbers...) {
			bad[fmt.Sprint(k.word, " of Arg ", v)] = impl.Thread{Status: impl.ThRuns, Op: k.op, Arg: v}
		}
		for _, v := range append([]int{-1, k.mostUntil() + 1}, farNumbers...) {
			bad[fmt.Sprint(k.word, " until ", v)] = impl.Thread{Status: impl.ThRuns, Op: k.op, Until: v}
		}
	}
	return bad
}

func wantThread(t *testing.T, what string, got, want impl.Thread) {
	t.Helper()
	if got != want {
		t.Errorf("%s: thread %+v, want %+v", what, got, want)
	}
}

func TestThreadConstants(t *testing.T) {
	if impl.ThIdle != 0 || impl.ThRuns != 1 || impl.ThParked != 2 {
		t.Error("statuses:", impl.ThIdle, impl.ThRuns, impl.ThParked)
	}
	ops := [6]int{impl.OpPut, impl.OpTake, impl.OpSwap, impl.OpPush, impl.OpPop, impl.OpCount}
	if ops != [6]int{1, 2, 3, 4, 5, 6} {
		t.Error("calls:", ops)
	}
	if impl.MaxValue != 1000 || impl.MaxTime != 1000000 {
		t.Error("limits:", impl.MaxValue, impl.MaxTime)
	}
}

func TestOpWords(t *testing.T) {
	for _, k := range callKinds {
		word, code := impl.OpWord(k.op)
		wantCode(t, "OpWord", code, impl.OK)
		if word != k.word || impl.OpOf(k.word) != k.op {
			t.Errorf("call %d: word %q, and the call of %q is %d", k.op, word, k.word, impl.OpOf(k.word))
		}
		if impl.IsWaiting(k.op) != k.waits {
			t.Error("IsWaiting of", k.word, "is not", k.waits)
		}
	}
}

func TestOpsThatAreNone(t *testing.T) {
	for _, op := range append([]int{-1, 0, 7, 8, 257, 258, -2}, farNumbers...) {
		word, code := impl.OpWord(op)
		wantCode(t, "OpWord", code, impl.ErrRange)
		if word != "" || impl.IsWaiting(op) {
			t.Errorf("call %d: word %q, waits %v", op, word, impl.IsWaiting(op))
		}
	}
}

func TestOpOfOtherTexts(t *testing.T) {
	others := []string{"", " ", "x", "Put", "PUT", "put ", " put", "pu", "putt", "put\x00", "puttake", "ok", "1", "\xff", "counts",
		strings.Repeat("put", impl.MaxText), "put" + strings.Repeat(" ", impl.MaxText)}
	for _, word := range others {
		if op := impl.OpOf(word); op != 0 {
			t.Errorf("OpOf of %d bytes %.20q = %d, want 0", len(word), word, op)
		}
	}
}

func TestNewThread(t *testing.T) {
	for id := range 4 {
		x, code := impl.NewThread(id)
		wantCode(t, "NewThread", code, impl.OK)
		wantThread(t, "NewThread", x, impl.Thread{Id: id})
		if !impl.ThreadOK(x) {
			t.Error("a new thread is not right:", id)
		}
	}
	for _, id := range append([]int{-1, 4, 5}, farNumbers...) {
		x, code := impl.NewThread(id)
		wantCode(t, "NewThread", code, impl.ErrRange)
		wantThread(t, "NewThread", x, impl.Thread{})
	}
}

func TestThreadOK(t *testing.T) {
	for _, x := range append(idleThreads(), busyThreads()...) {
		if !impl.ThreadOK(x) {
			t.Errorf("a right thread is refused: %+v", x)
		}
	}
	for code := range 20 {
		if !impl.ThreadOK(impl.Thread{Code: code}) {
			t.Error("an idle thread is refused with code", code)
		}
	}
	for pc := range 17 {
		if !impl.ThreadOK(impl.Thread{Status: impl.ThRuns, Op: impl.OpTake, Pc: pc}) {
			t.Error("a thread is refused at", pc)
		}
	}
	for name, x := range badThreads() {
		if impl.ThreadOK(x) {
			t.Error("taken as right:", name)
		}
	}
}

// Promise 3, the first half, with all limits of what a call may have.
func TestIdleBegins(t *testing.T) {
	for _, idle := range idleThreads() {
		for _, k := range callKinds {
			for _, arg := range []int{0, k.mostArg() / 2, k.mostArg()} {
				for _, until := range []int{0, k.mostUntil() / 2, k.mostUntil()} {
					x, code := impl.BeginCall(idle, k.op, arg, until)
					wantCode(t, "BeginCall", code, impl.OK)
					// Nothing is left of what the call ahead came to.
					wantThread(t, "BeginCall", x, impl.Thread{Id: idle.Id, Status: impl.ThRuns, Op: k.op, Arg: arg, Until: until})
					if !impl.ThreadOK(x) {
						t.Errorf("not right once it began: %+v", x)
					}
				}
			}
		}
	}
}

// Promise 3, the second half: running or parked, wherever it is.
func TestBusyDoesNotBegin(t *testing.T) {
	for _, busy := range busyThreads() {
		for _, k := range callKinds {
			x, code := impl.BeginCall(busy, k.op, k.mostArg(), k.mostUntil())
			wantCode(t, "BeginCall", code, impl.ErrBusy)
			wantThread(t, "BeginCall", x, busy)
		}
	}
}

func TestOneCallAtATime(t *testing.T) {
	x, _ := impl.NewThread(1)
	for _, k := range callKinds {
		begun, code := impl.BeginCall(x, k.op, 0, 0)
		wantCode(t, "the first "+k.word, code, impl.OK)
		for _, other := range callKinds {
			again, code := impl.BeginCall(begun, other.op, 0, 0)
			wantCode(t, other.word+" behind "+k.word, code, impl.ErrBusy)
			wantThread(t, other.word+" behind "+k.word, again, begun)
		}
	}
}

// A number out of its bounds comes ahead of a thread that is busy, and all else is zero.
func TestBeginOutOfRange(t *testing.T) {
	for _, x := range append(idleThreads(), busyThreads()...) {
		for _, op := range append([]int{-1, 0, 7}, farNumbers...) {
			y, code := impl.BeginCall(x, op, 0, 0)
			wantCode(t, fmt.Sprint("BeginCall of call ", op), code, impl.ErrRange)
			wantThread(t, "BeginCall", y, impl.Thread{})
		}
		for _, k := range callKinds {
			for _, arg := range append([]int{-1, k.mostArg() + 1}, farNumbers...) {
				y, code := impl.BeginCall(x, k.op, arg, 0)
				wantCode(t, fmt.Sprint(k.word, " of ", arg), code, impl.ErrRange)
				wantThread(t, "BeginCall", y, impl.Thread{})
			}
			for _, until := range append([]int{-1, k.mostUntil() + 1}, farNumbers...) {
				y, code := impl.BeginCall(x, k.op, 0, until)
				wantCode(t, fmt.Sprint(k.word, " until ", until), code, impl.ErrRange)
				wantThread(t, "BeginCall", y, impl.Thread{})
			}
		}
	}
}

func TestCancelWhatMayWait(t *testing.T) {
	seen := 0
	for _, x := range busyThreads() {
		if x.Op > impl.OpSwap {
			continue
		}
		seen++
		y, code := impl.CancelThread(x)
		wantCode(t, "CancelThread", code, impl.OK)
		want := x
		want.Status, want.Cancel = impl.ThRuns, true
		wantThread(t, "CancelThread", y, want)
		if !impl.ThreadOK(y) {
			t.Errorf("not right once cancelled: %+v", y)
		}
		again, code := impl.CancelThread(y)
		wantCode(t, "CancelThread once more", code, impl.OK)
		wantThread(t, "CancelThread once more", again, y)
		busy, code := impl.BeginCall(y, impl.OpPop, 0, 0)
		wantCode(t, "BeginCall once cancelled", code, impl.ErrBusy)
		wantThread(t, "BeginCall once cancelled", busy, y)
	}
	if seen != 18 {
		t.Error("threads that may wait:", seen)
	}
}

func TestCancelWhatDoesNotWait(t *testing.T) {
	none := idleThreads()
	for _, x := range busyThreads() {
		if x.Op > impl.OpSwap {
			none = append(none, x)
		}
	}
	for _, x := range none {
		y, code := impl.CancelThread(x)
		wantCode(t, "CancelThread", code, impl.ErrIdle)
		wantThread(t, "CancelThread", y, x)
	}
}

// A bad thread comes ahead of every other fault, and all else is zero.
func TestBadThreadComesFirst(t *testing.T) {
	for name, x := range badThreads() {
		for _, c := range [][3]int{{impl.OpPut, 5, 9}, {0, 0, 0}, {impl.OpPut, -1, 0}, {impl.OpPush, 5, 1}, {math.MaxInt, math.MinInt, math.MaxInt}} {
			y, code := impl.BeginCall(x, c[0], c[1], c[2])
			wantCode(t, "BeginCall of "+name, code, impl.ErrBad)
			wantThread(t, "BeginCall of "+name, y, impl.Thread{})
		}
		y, code := impl.CancelThread(x)
		wantCode(t, "CancelThread of "+name, code, impl.ErrBad)
		wantThread(t, "CancelThread of "+name, y, impl.Thread{})
	}
}
