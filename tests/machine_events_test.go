package tests

import (
	"fmt"
	"slices"
	"testing"

	"loop.example/g00624/impl"
)

func TestCallBegins(t *testing.T) {
	for _, k := range callKinds {
		for _, clock := range []int{0, 1, 4, 998999, 999000, 999001, 999999, 1000000} {
			for n, until := range map[int]int{0: 0, 1: clock + 1, 9: clock + 9, 999: clock + 999, 1000: clock + 1000} {
				if !k.waits && n != 0 {
					continue
				}
				for id := range 4 {
					others := withThread(machineOf(putAt(0), parkedAt(takeAt(9))), ended(id, impl.ErrTimeout, 7))
					m := atTimes(withEnded(others, 2), clock, 20+id)
					want := cloned(m)
					want.Threads[id] = impl.Thread{Id: id, Status: impl.ThRuns, Op: k.op, Arg: k.mostArg(), Until: min(until, 1000000)}
					want.Calls = append(want.Calls, impl.Call{Thread: id, Op: k.op, Arg: k.mostArg(), From: 20 + id})
					wantDone(t, fmt.Sprint(k.word, " for ", n, " at ", clock), m, callEvent(id, k.op, k.mostArg(), n), want)
				}
			}
		}
	}
}

func TestCallDoesNotBegin(t *testing.T) {
	for _, x := range slices.Concat(busyThreads(), runningThreads(), parkedThreads()) {
		for _, k := range callKinds {
			e := callEvent(x.Id, k.op, k.mostArg(), 0)
			wantRefused(t, k.word+" of one that is busy", machineOf(x), e, impl.ErrBusy)
		}
	}
	// One that is busy comes ahead of what has no room.
	busy := machineOf(putAt(0), parkedAt(takeAt(9)))
	for id, code := range []int{impl.ErrFull, impl.ErrFull, impl.ErrBusy, impl.ErrBusy} {
		for _, k := range callKinds {
			e := callEvent(id, k.op, k.mostArg(), 0)
			wantRefused(t, "calls are full", withEnded(busy, 4094), e, code)
			wantRefused(t, "steps are full", atTimes(busy, 4, 1000000), e, code)
			wantRefused(t, "both are full", atTimes(withEnded(busy, 4094), 4, 1000000), e, code)
		}
	}
	for _, m := range []impl.Machine{withEnded(busy, 4093), atTimes(busy, 4, 999999), atTimes(withEnded(busy, 4093), 4, 999999), atTimes(busy, 1000000, 20)} {
		want := withThread(m, running(1, impl.OpPush, 3, 0, [5]int{}))
		want.Calls[len(want.Calls)-1].From = m.Steps
		wantDone(t, "there is room for one more", m, callEvent(1, impl.OpPush, 3, 0), want)
	}
}

func TestStepRefused(t *testing.T) {
	for _, x := range idleThreads() {
		wantRefused(t, "an idle one", machineOf(x), stepEvent(x.Id), impl.ErrIdle)
		wantRefused(t, "an idle one, and steps are full", atTimes(machineOf(x), 4, 1000000), stepEvent(x.Id), impl.ErrIdle)
	}
	for _, x := range parkedThreads() {
		wantRefused(t, "a parked one", machineOf(x), stepEvent(x.Id), impl.ErrParked)
		wantRefused(t, "a parked one, and steps are full", atTimes(machineOf(x), 4, 1000000), stepEvent(x.Id), impl.ErrParked)
	}
	for _, x := range runningThreads() {
		wantRefused(t, "steps are full", atTimes(machineOf(x), 4, 1000000), stepEvent(x.Id), impl.ErrFull)
	}
	m := atTimes(machineOf(popAt(0)), 4, 999999)
	wantDone(t, "the last step", m, stepEvent(3), noted(atTimes(m, 4, 1000000), 3, impl.ErrEmpty, 0))
}

// stepOf is the step of the thread's own call, and whom it wakes.
func stepOf(a impl.Arena, x impl.Thread, now int) (impl.Arena, impl.Thread, int, int) {
	switch x.Op {
	case impl.OpPut, impl.OpTake:
		return impl.StepQueue(a, x, now)
	case impl.OpSwap:
		return impl.StepSwap(a, x, now)
	case impl.OpCount:
		b, y, code := impl.StepTree(a, x)
		return b, y, -1, code
	}
	b, y, code := impl.StepStack(a, x)
	return b, y, -1, code
}

// Whatever it is given that is right: the step of the call, one step more, an
// end that is noted, and a machine that stays right. A take or a swap that comes
// to less than 0, as no events lead to, has the result 0.
func TestStepsOfAllThreads(t *testing.T) {
	seen, below := map[[2]int]bool{}, 0
	all := slices.Concat(queueThreads(), swapThreads(), stackThreads(), treeThreads())
	for i, a := range slices.Concat(treeArenas(), []impl.Arena{arenaOf(treeOf(1, 1, 0, 4, 1, 2, 3)...)}) {
		if len(a.Cells) < 15 {
			continue
		}
		for j, x := range all {
			if (i+j)%3 != 0 {
				continue
			}
			b, y, _, code := stepOf(a, x, 4)
			wantCode(t, "a step", code, impl.OK)
			if y.Result < 0 {
				below++
				y.Result = 0
			}
			seen[[2]int{x.Op, x.Pc}] = true
			m := withEnded(withCells(machineOf(x), a.Cells), 1)
			want := atTimes(withCells(m, b.Cells), 4, 21)
			if y.Status == impl.ThIdle {
				want = noted(want, x.Id, y.Code, y.Result)
			} else {
				want = cloned(want)
				want.Threads[x.Id] = y
			}
			wantDone(t, fmt.Sprintf("a step of %+v", x), m, stepEvent(x.Id), want)
		}
	}
	if len(seen) != 6*17 || below == 0 {
		t.Error("steps that say too little:", len(seen), below)
	}
}

// A step that ends a call notes the step that is over by then, the code and the result.
func TestStepNotesTheEnd(t *testing.T) {
	tree := emptyTree()
	// At 15 and 18 are nodes of the queue, at 21 is one of the stack.
	waits := append(withCell(withCell(tree, 1, 31), 2, 37), 6, 37, 1, 6, 0, 3, 8, 0)
	for _, c := range []struct {
		what         string
		cells        []int
		x            impl.Thread
		code, result int
		then         []int
	}{
		{"a put that was served", waits, putAt(11, 36, 0, 0, 37, 0), impl.OK, 7, waits},
		{"a take that was served", waits, takeAt(11, 36, 0, 0, 37, 6), impl.OK, 5, waits},
		{"a take that serves", waits, takeAt(15, 0, 30, 37, 0, 6), impl.OK, 5, waits},
		{"a take that gives up at its time", tree, until(takeAt(2, 6, 6), 4), impl.ErrTimeout, 0, tree},
		{"a put that was cancelled", tree, cancelled(putAt(2, 6, 6)), impl.ErrCancelled, 0, tree},
		{"a put without room", fullQueue(tree, 2), putAt(4, 6, 6), impl.ErrFull, 0, fullQueue(tree, 2)},
		{"a swap without room", fullQueue(tree, 2), swapAt(1), impl.ErrFull, 0, fullQueue(tree, 2)},
		{"a swap that gives up", tree, until(swapAt(0), 3), impl.ErrTimeout, 0, tree},
		{"a swap that gives", tree, swapAt(8, 15, 0, 9), impl.OK, 8, tree},
		{"a push", tree, pushAt(3, 0, 15), impl.OK, 7, withCell(tree, 7, 15)},
		{"a push without room", fullQueue(tree, 1), pushAt(0), impl.ErrFull, 0, fullQueue(tree, 1)},
		{"a pop", waits, popAt(3, 21), impl.OK, 8, waits},
		{"a pop of nothing", tree, popAt(0), impl.ErrEmpty, 0, tree},
		{"a count", tree, countAt(2, 1, 1), impl.OK, 3, withCell(tree, 14, 7)},
	} {
		other := impl.Thread{Id: (c.x.Id + 1) % 4, Status: impl.ThRuns, Op: c.x.Op, Arg: c.x.Arg}
		before := impl.Call{Thread: c.x.Id, Op: c.x.Op, Arg: c.x.Arg, From: 1, To: 2, Result: 9}
		m := withCells(machineOf(other, c.x), c.cells)
		// Ahead of it and behind it are calls that ended, of the same thread too.
		m.Calls = append([]impl.Call{before}, append(m.Calls, before)...)
		want := cloned(atTimes(withCells(m, c.then), 4, 21))
		want.Threads[c.x.Id] = ended(c.x.Id, c.code, c.result)
		want.Calls[2].To, want.Calls[2].Code, want.Calls[2].Result = 21, c.code, c.result
		wantDone(t, c.what, m, stepEvent(c.x.Id), want)
	}
}

// wakers are steps that end a call and wake the owner of a node; the owner's cell is the one told.
func wakers(id int) map[string]struct {
	x     impl.Thread
	owner int
} {
	type waker = struct {
		x     impl.Thread
		owner int
	}
	return map[string]waker{
		"a take":          {running(id, impl.OpTake, 0, 15, [5]int{0, 30, 31, 0, 6}), 17},
		"a take at 16":    {running(id, impl.OpTake, 0, 16, [5]int{0, 30, 31, 0, 6}), 17},
		"a put":           {running(id, impl.OpPut, 5, 15, [5]int{0, 36, 36, 0, 0}), 20},
		"a swap":          {running(id, impl.OpSwap, 5, 8, [5]int{15, 0, 6}), 17},
		"a swap above 10": {running(id, impl.OpSwap, 5, 11, [5]int{18, 0, 6}), 20},
	}
}

// Whom a step wakes is unparked, whatever it does by then.
func TestStepWakes(t *testing.T) {
	for id := range 4 {
		for what, w := range wakers(id) {
			for _, other := range slices.Concat(idleThreads(), busyThreads(), runningThreads(), parkedThreads()) {
				if other.Id == id {
					continue
				}
				cells := withCell(append(emptyTree(), 5, 36, 9, 5, 0, 9), w.owner, other.Id+1)
				m := withCells(machineOf(other, w.x), cells)
				want := noted(atTimes(m, 4, 21), id, impl.OK, 5)
				want.Threads[other.Id] = other
				switch {
				case other.Status == impl.ThParked:
					want.Threads[other.Id].Status = impl.ThRuns
				case other.Status == impl.ThRuns:
					want.Threads[other.Id].Permit = other.Op <= impl.OpSwap
				}
				wantDone(t, fmt.Sprintf("%s of %d wakes %+v", what, id, other), m, stepEvent(id), want)
			}
		}
	}
}

// The thread itself is not woken, nor what is no thread; those that were not meant stay as they were.
func TestStepWakesNobodyElse(t *testing.T) {
	for id := range 4 {
		for what, w := range wakers(id) {
			for _, owner := range []int{id + 1, 0, -1, -4, 5, 6, 100, impl.MaxWord, -impl.MaxWord} {
				m := withCells(machineOf(), withCell(append(emptyTree(), 5, 36, 9, 5, 0, 9), w.owner, owner))
				for k := range 4 {
					x := withPermit(running(k, impl.OpPush, 3, 0, [5]int{}), true)
					if k%2 == 0 {
						x = parkedAt(running(k, impl.OpTake, 0, 9, [5]int{}))
					}
					m = withThread(m, x)
				}
				m = withThread(m, w.x)
				wantDone(t, fmt.Sprint(what, " of ", id, " and the owner ", owner), m, stepEvent(id), noted(atTimes(m, 4, 21), id, impl.OK, 5))
			}
		}
	}
}

// Steps that do not wake anybody leave the others as they were.
func TestOtherStepsWakeNobody(t *testing.T) {
	for _, x := range []impl.Thread{putAt(0), takeAt(1), swapAt(0), pushAt(0), popAt(0), countAt(0), putAt(13, 30, 30, 37), takeAt(14, 30, 30, 31)} {
		m := withCells(machineOf(), append(emptyTree(), 5, 0, 1, 5, 0, 2))
		for k := range 4 {
			m = withThread(m, parkedAt(running(k, impl.OpSwap, k, 3, [5]int{})))
		}
		m = withThread(m, x)
		got, code := eventDo(t, "a step", m, stepEvent(x.Id))
		wantCode(t, "a step", code, impl.OK)
		for k := range 4 {
			if k != x.Id {
				wantThread(t, fmt.Sprintf("beside a step of %+v", x), got.Threads[k], m.Threads[k])
			}
		}
	}
}

func TestTick(t *testing.T) {
	for _, clock := range []int{0, 4, 998999, 999000, 999001, 999999, 1000000} {
		for _, n := range []int{0, 1, 2, 9, 999, 1000} {
			now := min(clock+n, 1000000)
			for _, until := range []int{0, 1, clock, now - 1, now, now + 1, 1000000} {
				if until < 0 || until > 1000000 {
					continue
				}
				m := machineOf()
				for k, op := range []int{impl.OpPut, impl.OpTake, impl.OpSwap, impl.OpPut} {
					x := impl.Thread{Id: k, Status: impl.ThParked, Op: op, Pc: 9, Until: until}
					if k == 3 {
						x.Status = impl.ThRuns
					}
					m = withThread(m, x)
				}
				m = atTimes(m, clock, 20)
				want := atTimes(cloned(m), now, 20)
				for k := range 3 {
					if until != 0 && until <= now {
						want.Threads[k].Status = impl.ThRuns
					}
				}
				wantDone(t, fmt.Sprint("a tick of ", n, " at ", clock, ", until ", until), m, tickEvent(n), want)
			}
		}
	}
}

// Some expire, and others do not: each by its own time.
func TestTickExpiresSome(t *testing.T) {
	m := machineOf()
	for k, time := range []int{5, 0, 7, 6} {
		m = withThread(m, until(parkedAt(running(k, impl.OpTake, 0, 9, [5]int{})), time))
	}
	for n, runs := range [][4]bool{{}, {true}, {true, false, false, true}, {true, false, true, true}, {true, false, true, true}} {
		want := atTimes(cloned(m), 4+n, 20)
		for k := range 4 {
			if runs[k] {
				want.Threads[k].Status = impl.ThRuns
			}
		}
		wantDone(t, fmt.Sprint("a tick of ", n), m, tickEvent(n), want)
	}
	// With all steps taken and all calls noted, time goes by none the less.
	full := atTimes(withEnded(m, 4092), 4, 1000000)
	want := atTimes(cloned(full), 5, 1000000)
	want.Threads[0].Status = impl.ThRuns
	wantDone(t, "a tick of a machine that is full", full, tickEvent(1), want)
}

// A Cancel is as good as a time that is over; what does not wait, and what is idle, stays as it was.
func TestTickOfEveryThread(t *testing.T) {
	for _, x := range slices.Concat(idleThreads(), busyThreads(), runningThreads(), parkedThreads()) {
		for _, n := range []int{0, 5, 1000} {
			m := machineOf(x)
			want := atTimes(cloned(m), 4+n, 20)
			if x.Status == impl.ThParked && (x.Cancel || x.Until != 0 && x.Until <= 4+n) {
				want.Threads[x.Id].Status = impl.ThRuns
			}
			wantDone(t, fmt.Sprintf("a tick of %d and %+v", n, x), m, tickEvent(n), want)
		}
	}
}

func TestCancelOfEveryThread(t *testing.T) {
	for _, x := range slices.Concat(idleThreads(), busyThreads(), runningThreads(), parkedThreads()) {
		for _, m := range []impl.Machine{machineOf(x), withThread(machineOf(putAt(0), parkedAt(takeAt(9)), parkedAt(running(0, impl.OpSwap, 1, 3, [5]int{}))), x),
			atTimes(withEnded(machineOf(x), 4095), 4, 1000000)} {
			if !mayWait(x) {
				wantRefused(t, fmt.Sprintf("a cancel of %+v", x), m, cancelEvent(x.Id), impl.ErrIdle)
				continue
			}
			want := cloned(m)
			want.Threads[x.Id].Status, want.Threads[x.Id].Cancel = impl.ThRuns, true
			wantDone(t, fmt.Sprintf("a cancel of %+v", x), m, cancelEvent(x.Id), want)
		}
	}
}

func TestWakeOfEveryThread(t *testing.T) {
	for _, x := range slices.Concat(idleThreads(), busyThreads(), runningThreads(), parkedThreads()) {
		for _, m := range []impl.Machine{machineOf(x), withThread(machineOf(putAt(0), parkedAt(takeAt(9)), parkedAt(running(0, impl.OpSwap, 1, 3, [5]int{}))), x),
			atTimes(withEnded(machineOf(x), 4095), 4, 1000000)} {
			if x.Status != impl.ThParked {
				wantRefused(t, fmt.Sprintf("a wake of %+v", x), m, wakeEvent(x.Id), impl.ErrIdle)
				continue
			}
			want := cloned(m)
			want.Threads[x.Id].Status = impl.ThRuns
			wantDone(t, fmt.Sprintf("a wake of %+v", x), m, wakeEvent(x.Id), want)
		}
	}
}

// wantRun: all of the answer of EventsRun, of a list that stays as it was.
func wantRun(t *testing.T, what string, list []impl.Event, want impl.Machine, codes []int, code int) {
	t.Helper()
	given := roomy(list, impl.Event{Kind: guard})
	m, got, gotCode := impl.EventsRun(given)
	_, other, _ := impl.EventsRun(given)
	spoil(other, -guard)
	wantCode(t, what, gotCode, code)
	wantMachine(t, what, m, want)
	if !slices.Equal(got, codes) {
		t.Errorf("%s: codes %v, want %v", what, got, codes)
	}
	if !slices.Equal(given, list) {
		t.Errorf("%s: the list was changed", what)
	}
	wantRoomLeft(t, what, given, impl.Event{Kind: guard})
}

func TestEventsRunByHand(t *testing.T) {
	fresh := impl.NewMachine()
	wantRun(t, "nothing", nil, fresh, nil, impl.OK)
	wantRun(t, "an empty list", []impl.Event{}, fresh, nil, impl.OK)
	want := atTimes(withCells(fresh, withCell(append(emptyTree(), 8, 0), 7, 15)), 9, 5)
	want.Threads[1] = ended(1, impl.OK, 8)
	want.Threads[2] = running(2, impl.OpTake, 0, 1, [5]int{6})
	want.Threads[2].Until = 13
	want.Calls = []impl.Call{{Thread: 1, Op: impl.OpPush, Arg: 8, To: 4, Result: 8}, {Thread: 2, Op: impl.OpTake, From: 4}}
	wantRun(t, "a push and a take", []impl.Event{
		stepEvent(1), callEvent(1, impl.OpPush, 8, 0), callEvent(1, impl.OpPop, 0, 0), stepEvent(1), stepEvent(1), wakeEvent(1), stepEvent(1), cancelEvent(1),
		tickEvent(5), stepEvent(1), stepEvent(1), callEvent(2, impl.OpTake, 0, 8), tickEvent(4), stepEvent(2),
	}, want, []int{impl.ErrIdle, 0, impl.ErrBusy, 0, 0, impl.ErrIdle, 0, impl.ErrIdle, 0, 0, impl.ErrIdle, 0, 0, 0}, impl.OK)
}

// Each list is right, or of the first fault that comes: its length of 4097, of 251, one that is not right.
func TestEventsRunFaults(t *testing.T) {
	none := impl.Machine{}
	for n, code := range map[int]int{249: 0, 250: 0, 251: impl.ErrMany, 300: impl.ErrMany, 4096: impl.ErrMany, 4097: impl.ErrLong, 9000: impl.ErrLong} {
		list := slices.Repeat([]impl.Event{tickEvent(3)}, n)
		what := fmt.Sprint("events: ", n)
		if code != impl.OK {
			wantRun(t, what, list, none, nil, code)
		} else {
			wantRun(t, what, list, atTimes(impl.NewMachine(), 3*n, 0), make([]int, n), impl.OK)
		}
		if code == impl.OK {
			code = impl.ErrBad
		}
		for _, at := range []int{0, n / 2, n - 1} {
			bad := slices.Clone(list)
			bad[at] = tickEvent(1001)
			wantRun(t, fmt.Sprint(what, ", one is not right: ", at), bad, none, nil, code)
		}
		wantRun(t, what+", none is right", make([]impl.Event, n), none, nil, code)
	}
	for name, e := range badEvents() {
		wantRun(t, name, []impl.Event{e}, none, nil, impl.ErrBad)
		wantRun(t, name+" behind others", []impl.Event{tickEvent(1), stepEvent(1), e}, none, nil, impl.ErrBad)
		wantRun(t, name+" ahead of others", []impl.Event{e, tickEvent(1), stepEvent(1)}, none, nil, impl.ErrBad)
	}
	for _, e := range rightEvents() {
		if _, codes, code := impl.EventsRun([]impl.Event{e, e}); code != impl.OK || len(codes) != 2 {
			t.Errorf("a right event is refused: %+v %d %v", e, code, codes)
		}
	}
}

func wantSame(t *testing.T, what string, a, b impl.Machine, want bool) {
	t.Helper()
	if impl.SameMachine(a, b) != want || impl.SameMachine(b, a) != want {
		t.Errorf("%s: SameMachine is not %v", what, want)
	}
}

func TestSameMachine(t *testing.T) {
	base := withEnded(machineOf(putAt(3), parkedAt(takeAt(9))), 2)
	all := map[string]impl.Machine{
		"as it was":        base,
		"new":              impl.NewMachine(),
		"another cell":     withCells(base, withCell(emptyTree(), 14, 7)),
		"one cell more":    withCells(base, append(emptyTree(), 0)),
		"another clock":    atTimes(base, 5, 20),
		"other steps":      atTimes(base, 4, 21),
		"one call more":    withEnded(base, 1),
		"one call less":    withEnded(machineOf(putAt(3), parkedAt(takeAt(9))), 1),
		"another Pc":       withThread(base, putAt(4)),
		"another permit":   withThread(base, withPermit(putAt(3), true)),
		"another cancel":   withThread(base, cancelled(putAt(3))),
		"another time":     withThread(base, until(putAt(3), 9)),
		"another register": withThread(base, putAt(3, 0, 0, 0, 0, 1)),
		"another status":   withThread(base, takeAt(9)),
		"another code":     withThread(base, ended(0, impl.ErrEmpty, 0)),
		"another result":   withThread(base, ended(0, impl.OK, 1)),
		"another call":     withThread(base, running(1, impl.OpPop, 0, 0, [5]int{})),
	}
	for i, change := range []func(*impl.Call){
		func(c *impl.Call) { c.From = 1; c.To = 2 }, func(c *impl.Call) { c.To = 2 }, func(c *impl.Call) { c.Code = 0 },
		func(c *impl.Call) { c.Result = 1 }, func(c *impl.Call) { c.Thread = 1 }, func(c *impl.Call) { c.Op = impl.OpCount },
	} {
		m := cloned(base)
		change(&m.Calls[1])
		all[fmt.Sprint("an ended call changed: ", i)] = m
	}
	swapped := cloned(base)
	slices.Reverse(swapped.Calls)
	all["calls in another order"] = swapped
	for name, a := range all {
		wantMachineOK(t, name, a, true)
		for other, b := range all {
			wantSame(t, name+" and "+other, a, cloned(b), name == other)
		}
		for bad, b := range badMachines() {
			wantSame(t, name+" and "+bad, a, b, false)
		}
	}
	for name, bad := range badMachines() {
		wantSame(t, name+" and itself", bad, cloned(bad), false)
	}
	empty := impl.NewMachine()
	empty.Calls = []impl.Call{}
	wantSame(t, "no calls, and nil", empty, impl.NewMachine(), true)
}
