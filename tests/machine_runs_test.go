package tests

import (
	"fmt"
	"math/rand"
	"slices"
	"testing"

	"loop.example/g00624/impl"
)

// waitAccount tells who waits in a machine's queue by what its cells come to,
// and by nothing that the threads have.
type waitAccount struct {
	// last is the node that was linked last.
	last int
	// waiting are the nodes that wait, in the order in which they were linked.
	waiting []int
	// passed are nodes that wait, and that the head went past.
	passed         []int
	passes, served int
}

// machineRun is a machine that events lead to, with what each of them came to.
type machineRun struct {
	t      *testing.T
	m      impl.Machine
	events []impl.Event
	codes  []int
	waits  waitAccount
}

func newMachineRun(t *testing.T) *machineRun {
	return &machineRun{t: t, m: impl.NewMachine(), waits: waitAccount{last: 6}}
}

// fork is the same run once more, which shares no memory with it.
func (r *machineRun) fork() *machineRun {
	out := *r
	out.m = cloned(r.m)
	out.events, out.codes = slices.Clone(r.events), slices.Clone(r.codes)
	out.waits.waiting, out.waits.passed = slices.Clone(r.waits.waiting), slices.Clone(r.waits.passed)
	return &out
}

// expected is the machine behind an event that is right, by the calls of the chapters ahead.
func expected(m impl.Machine, e impl.Event) (impl.Machine, int) {
	m = cloned(m)
	k := e.Thread
	code := impl.OK
	switch e.Kind {
	case impl.EvCall:
		until := min(m.Clock+e.N, 1000000)
		if e.N == 0 {
			until = 0
		}
		m.Threads[k], code = impl.BeginCall(m.Threads[k], e.Op, e.Arg, until)
		if code == impl.OK {
			m.Calls = append(m.Calls, impl.Call{Thread: k, Op: e.Op, Arg: e.Arg, From: m.Steps})
		}
	case impl.EvStep:
		return expectedStep(m, k)
	case impl.EvTick:
		m.Clock = min(m.Clock+e.N, 1000000)
		for i, x := range m.Threads {
			m.Threads[i], _ = impl.ExpireThread(x, m.Clock)
		}
	case impl.EvCancel:
		m.Threads[k], code = impl.CancelThread(m.Threads[k])
	case impl.EvWake:
		m.Threads[k], code = impl.WakeThread(m.Threads[k])
	}
	return m, code
}

func expectedStep(m impl.Machine, k int) (impl.Machine, int) {
	switch m.Threads[k].Status {
	case impl.ThIdle:
		return m, impl.ErrIdle
	case impl.ThParked:
		return m, impl.ErrParked
	}
	a, y, wakes, code := stepOf(m.Arena, m.Threads[k], m.Clock)
	m.Arena, m.Threads[k] = a, y
	m.Steps++
	if y.Status == impl.ThIdle {
		m = noted(m, k, y.Code, y.Result)
	}
	if wakes >= 0 {
		m.Threads[wakes], _ = impl.UnparkThread(m.Threads[wakes])
	}
	return m, code
}

func (r *machineRun) do(e impl.Event) int {
	r.t.Helper()
	want, wantedCode := expected(r.m, e)
	got, code := impl.EventDo(r.m, e)
	if code != wantedCode || !sameParts(got, want) || !impl.MachineOK(got) {
		r.t.Fatalf("%+v of\n%+v: code %d\n%+v, want %d\n%+v", e, r.m, code, got, wantedCode, want)
	}
	r.waits.note(r.t, r.m, got, e.Thread)
	r.m = got
	r.events, r.codes = append(r.events, e), append(r.codes, code)
	r.waits.want(r.t, got.Arena)
	return code
}

// all does events that are to come to nothing but OK.
func (r *machineRun) all(list ...impl.Event) {
	r.t.Helper()
	for _, e := range list {
		wantCode(r.t, fmt.Sprintf("%+v", e), r.do(e), impl.OK)
	}
}

func (r *machineRun) steps(k, n int) {
	r.t.Helper()
	for range n {
		r.all(stepEvent(k))
	}
}

// settle lets one thread run till it ends or parks.
func (r *machineRun) settle(k int) {
	r.t.Helper()
	for range 1000 {
		if r.m.Threads[k].Status != impl.ThRuns {
			return
		}
		r.all(stepEvent(k))
	}
	r.t.Fatalf("it runs on and on: %+v", r.m.Threads[k])
}

// drain lets all threads run in turn till none does.
func (r *machineRun) drain() {
	r.t.Helper()
	for range 1000 {
		quiet := true
		for k := range r.m.Threads {
			if r.m.Threads[k].Status == impl.ThRuns {
				r.all(stepEvent(k))
				quiet = false
			}
		}
		if quiet {
			return
		}
	}
	r.t.Fatal("they run on and on:", r.m.Threads)
}

// note looks at the cells of the queue: the end of its nodes, its head, and the items of nodes that wait.
func (w *waitAccount) note(t *testing.T, was, is impl.Machine, thread int) {
	t.Helper()
	for at, v := range was.Arena.Cells {
		now := is.Arena.Cells[at]
		switch {
		case v == now:
		case at == w.last/2+1:
			w.waiting, w.last = append(w.waiting, now), now
		case at == impl.QueueHead:
			w.pass(now)
		default:
			w.leave(t, at, is.Arena, thread)
		}
	}
}

func (w *waitAccount) pass(head int) {
	if at := slices.Index(w.waiting, head); at >= 0 {
		w.waiting = slices.Delete(w.waiting, at, at+1)
		w.passed = append(w.passed, head)
		w.passes++
	}
}

// leave: what its own thread changed gave up; what another one changed was
// served, which is for the first one alone.
func (w *waitAccount) leave(t *testing.T, item int, a impl.Arena, thread int) {
	t.Helper()
	w.passed = slices.DeleteFunc(w.passed, func(ref int) bool { return ref/2 == item })
	at := slices.IndexFunc(w.waiting, func(ref int) bool { return ref/2 == item })
	if at < 0 {
		return
	}
	if a.Cells[item+2]-1 != thread {
		w.served++
		if at > 0 {
			t.Errorf("%d was served ahead of %v", w.waiting[at], w.waiting[:at])
		}
	}
	w.waiting = slices.Delete(w.waiting, at, at+1)
}

// want is the second half of promise 5 at one moment: those that wait are those
// that came to wait and have not left, in that order, and they are of one kind.
func (w *waitAccount) want(t *testing.T, a impl.Arena) {
	t.Helper()
	var owners []int
	for _, ref := range w.waiting {
		owners = append(owners, a.Cells[ref/2+2]-1)
		if ref%2 != w.waiting[0]%2 {
			t.Errorf("of two kinds: %v", w.waiting)
		}
	}
	wantWaiters(t, "who waits", a.Cells, owners...)
	if len(owners) == 0 {
		wantHolds(t, "nobody waits", a.Cells, false, impl.ErrNone)
		return
	}
	wantHolds(t, "the kind of who waits", a.Cells, w.waiting[0]%2 == 1, impl.OK)
}

// ofKinds lets a seed choose the next event: most often a step, or a call of
// these kinds; now and then what cannot be done.
func ofKinds(random *rand.Rand, r *machineRun, kinds ...int) impl.Event {
	k := random.Intn(4)
	call := func() impl.Event {
		kind := callKinds[kinds[random.Intn(len(kinds))]-1]
		e := callEvent(k, kind.op, 0, 0)
		if kind.brings {
			e.Arg = len(r.m.Calls) % 1000
		}
		if kind.waits && random.Intn(2) == 0 {
			e.N = 1 + random.Intn(12)
		}
		return e
	}
	switch n := random.Intn(60); {
	case n == 0:
		return tickEvent(random.Intn(4))
	case n == 1:
		return cancelEvent(k)
	case n == 2:
		return wakeEvent(k)
	case n == 3:
		return call()
	case n == 4 || r.m.Threads[k].Status != impl.ThIdle:
		return stepEvent(k)
	}
	return call()
}

// Promise 9: machines stay right through long lists of events of all kinds,
// each of which comes to what the chapters ahead say.
func TestMachinesStayRight(t *testing.T) {
	codes, ends, full := map[int]int{}, map[[2]int]int{}, 0
	for seed := range int64(30) {
		random := rand.New(rand.NewSource(seed))
		r := newMachineRun(t)
		for range 4000 {
			r.do(ofKinds(random, r, 1, 2, 3, 4, 5, 6))
		}
		r.drain()
		for _, code := range r.codes {
			codes[code]++
		}
		for _, c := range r.m.Calls {
			if c.To != 0 {
				ends[[2]int{c.Op, c.Code}]++
			}
		}
		if len(r.m.Arena.Cells) > impl.MaxCells-2 {
			full++
		}
	}
	for _, code := range []int{impl.OK, impl.ErrBusy, impl.ErrIdle, impl.ErrParked} {
		if codes[code] < 100 {
			t.Error("runs that say too little: codes", codes)
		}
	}
	for op := impl.OpPut; op <= impl.OpSwap; op++ {
		for _, code := range []int{impl.OK, impl.ErrTimeout, impl.ErrCancelled} {
			if ends[[2]int{op, code}] < 20 {
				t.Error("runs that say too little: ends", ends)
			}
		}
	}
	for _, end := range [][2]int{{impl.OpPush, 0}, {impl.OpPop, 0}, {impl.OpPop, impl.ErrEmpty}, {impl.OpCount, 0}, {impl.OpPush, impl.ErrFull}, {impl.OpPut, impl.ErrFull}, {impl.OpSwap, impl.ErrFull}} {
		if ends[end] < 10 {
			t.Error("runs that say too little: ends", ends)
		}
	}
	if full < 10 {
		t.Error("runs that say too little: full", full)
	}
}

// Promise 9: events that are done one by one come to what EventsRun says of all of them.
func TestEventsOneByOne(t *testing.T) {
	for seed := range int64(60) {
		random := rand.New(rand.NewSource(seed + 1000))
		r := newMachineRun(t)
		for n := range 251 {
			if n%50 == 0 || n < 12 || n == 249 {
				wantRun(t, fmt.Sprint("seed ", seed, ", events: ", n), r.events, r.m, r.codes, impl.OK)
			}
			if n < 250 {
				r.do(ofKinds(random, r, 1, 2, 3, 4, 5, 6))
			}
		}
		got, codes, code := impl.EventsRun(r.events)
		if code != impl.OK || !slices.Equal(codes, r.codes) || !impl.SameMachine(got, r.m) {
			t.Error("seed", seed, "is not the same")
		}
	}
}

// Lists of events that say nothing of the machine: whatever comes, it stays right.
func TestMachinesStayRightThroughAnyEvents(t *testing.T) {
	all := rightEvents()
	for seed := range int64(60) {
		random := rand.New(rand.NewSource(seed + 2000))
		list := make([]impl.Event, 250)
		for i := range list {
			list[i] = all[random.Intn(len(all))]
		}
		r := newMachineRun(t)
		for _, e := range list {
			r.do(e)
		}
		wantRun(t, fmt.Sprint("seed ", seed), list, r.m, r.codes, impl.OK)
	}
}

// Promise 5, the second half, with machines: in any order of steps, ticks,
// cancels and wakes those that wait are of one kind, and the first one is
// served. A take that holds an old tail may by step 7 of chapter 5 move the head
// past another one that still waits: see TestATakeThatIsPassed.
func TestWaitersAreServedInOrder(t *testing.T) {
	served, passes, waited := 0, 0, map[int]int{}
	for seed := range int64(300) {
		random := rand.New(rand.NewSource(seed + 3000))
		r := newMachineRun(t)
		for range 700 {
			r.do(ofKinds(random, r, impl.OpPut, impl.OpTake))
			waited[len(r.waits.waiting)]++
		}
		r.drain()
		r.wantMet()
		served += r.waits.served
		if r.waits.passes > 0 {
			passes++
		}
		if t.Failed() {
			t.Fatal("seed", seed)
		}
	}
	if served < 3000 || passes > 10 || waited[3] < 1000 || waited[4] < 100 {
		t.Error("runs that say too little: served", served, "passes", passes, "waited", waited)
	}
}

// wantMet: when no thread runs any more, those that are parked with a put or a
// take are those that wait, and each value that was taken was put, once.
func (r *machineRun) wantMet() {
	r.t.Helper()
	var put, taken, parked []int
	for _, c := range r.m.Calls {
		switch {
		case c.To == 0 && c.Op <= impl.OpTake:
			parked = append(parked, c.Thread)
		case c.Code == impl.OK && c.Op == impl.OpPut:
			put = append(put, c.Result)
		case c.Code == impl.OK && c.Op == impl.OpTake:
			taken = append(taken, c.Result)
		}
	}
	slices.Sort(put)
	slices.Sort(taken)
	if !slices.Equal(put, taken) || len(slices.Compact(slices.Clone(taken))) != len(taken) {
		r.t.Errorf("put well %v, taken %v", put, taken)
	}
	var waits []int
	for _, ref := range slices.Concat(r.waits.waiting, r.waits.passed) {
		waits = append(waits, r.m.Arena.Cells[ref/2+2]-1)
	}
	slices.Sort(waits)
	slices.Sort(parked)
	if !slices.Equal(waits, parked) {
		r.t.Errorf("parked %v, and those that wait are %v", parked, waits)
	}
}

// Who came to wait first is served first, of either kind, whoever comes for it.
func TestMachineServesInOrder(t *testing.T) {
	for _, kind := range []int{impl.OpPut, impl.OpTake} {
		for _, order := range [][3]int{{0, 1, 2}, {2, 1, 0}, {1, 2, 0}} {
			r := newMachineRun(t)
			args := [4]int{11, 22, 33, 0}
			for _, k := range order {
				e := callEvent(k, kind, 0, 0)
				if kind == impl.OpPut {
					e.Arg = args[k]
				}
				r.all(e)
				r.settle(k)
			}
			wantWaiters(t, "three wait", r.m.Arena.Cells, order[:]...)
			for _, k := range order {
				e := callEvent(3, impl.OpTake, 0, 0)
				if kind == impl.OpTake {
					e = callEvent(3, impl.OpPut, args[k], 0)
				}
				r.all(e)
				r.settle(3)
				r.settle(k)
				wantThread(t, "who came for it", r.m.Threads[3], ended(3, impl.OK, args[k]))
				wantThread(t, "who was served", r.m.Threads[k], ended(k, impl.OK, args[k]))
			}
			wantWaiters(t, "nobody waits", r.m.Arena.Cells)
		}
	}
}

// Who gives up is not served, and those behind it keep their order.
func TestMachinePassesOverWhoGaveUp(t *testing.T) {
	r := newMachineRun(t)
	for k, n := range []int{9, 0, 20} {
		r.all(callEvent(k, impl.OpPut, k+1, n))
		r.settle(k)
	}
	r.all(tickEvent(8))
	wantThread(t, "ahead of its time", r.m.Threads[0], until(parkedAt(running(0, impl.OpPut, 1, 9, [5]int{6, 6, 0, 31, 2})), 9))
	r.all(tickEvent(1), cancelEvent(1))
	r.settle(1)
	r.settle(0)
	wantWaiters(t, "the third one waits", r.m.Arena.Cells, 2)
	r.all(callEvent(3, impl.OpTake, 0, 0))
	r.drain()
	for k, want := range []impl.Call{
		{Op: impl.OpPut, Arg: 1, Code: impl.ErrTimeout}, {Thread: 1, Op: impl.OpPut, Arg: 2, Code: impl.ErrCancelled},
		{Thread: 2, Op: impl.OpPut, Arg: 3, Result: 3}, {Thread: 3, Op: impl.OpTake, Result: 3},
	} {
		got := r.m.Calls[k]
		got.From, got.To = 0, 0
		if got != want {
			t.Errorf("call %d: %+v, want %+v", k, got, want)
		}
	}
}

// Whom a step wakes may have ended, and may have begun another call, by then.
func TestMachineWakesWhoDoesSomethingElse(t *testing.T) {
	for what, c := range map[string]struct {
		call   impl.Event
		steps  int
		status int
		permit bool
	}{
		"idle":                       {impl.Event{}, 0, impl.ThIdle, false},
		"a push":                     {callEvent(0, impl.OpPush, 3, 0), 1, impl.ThRuns, false},
		"a count":                    {callEvent(0, impl.OpCount, 0, 0), 1, impl.ThRuns, false},
		"a swap that is not parked":  {callEvent(0, impl.OpSwap, 3, 0), 3, impl.ThRuns, true},
		"a put that is not parked":   {callEvent(0, impl.OpPut, 3, 0), 6, impl.ThRuns, true},
		"a swap that is parked":      {callEvent(0, impl.OpSwap, 3, 0), 4, impl.ThRuns, false},
		"a put that is parked":       {callEvent(0, impl.OpPut, 3, 0), 7, impl.ThRuns, false},
		"a take that is parked":      {callEvent(0, impl.OpTake, 0, 0), 7, impl.ThRuns, false},
		"a take that has just begun": {callEvent(0, impl.OpTake, 0, 0), 0, impl.ThRuns, true},
	} {
		r := newMachineRun(t)
		r.all(callEvent(0, impl.OpPut, 5, 0))
		r.settle(0)
		r.all(callEvent(1, impl.OpTake, 0, 0))
		r.steps(1, 6)
		r.all(wakeEvent(0))
		r.settle(0)
		wantThread(t, what+", served ahead of its wake", r.m.Threads[0], ended(0, impl.OK, 5))
		if c.call.Kind != 0 {
			r.all(c.call)
			r.steps(0, c.steps)
		}
		r.steps(1, 1)
		x := r.m.Threads[0]
		if x.Status != c.status || x.Permit != c.permit {
			t.Errorf("%s: %+v", what, x)
		}
		wantThread(t, "the take", r.m.Threads[1], ended(1, impl.OK, 5))
	}
}

// In an arena that is full a call fails, and all else stays.
func TestMachineThatIsFull(t *testing.T) {
	for _, op := range []int{impl.OpPut, impl.OpTake, impl.OpSwap, impl.OpPush} {
		r := newMachineRun(t)
		r.m.Arena.Cells = fullQueue(emptyTree(), 1)
		r.all(callEvent(2, op, 0, 0))
		r.settle(2)
		wantThread(t, "no room", r.m.Threads[2], ended(2, impl.ErrFull, 0))
		wantCells(t, "all else stays", r.m.Arena, fullQueue(emptyTree(), 1)...)
		if c := r.m.Calls[0]; c != (impl.Call{Thread: 2, Op: op, To: r.m.Steps, Code: impl.ErrFull}) {
			t.Errorf("no room: %+v", c)
		}
	}
}

// The steps of chapter 5, to the word: "else 12" of step 7 is of a node of one's
// own kind that waits, too. Thread 0 has read an old tail, a put's, and comes
// upon a take: it moves the head past that take, which nobody serves from there
// on, though it waits. Those that wait as QueueWaiters tells them are of one
// kind none the less.
func TestATakeThatIsPassed(t *testing.T) {
	r := newMachineRun(t)
	r.all(callEvent(1, impl.OpPut, 11, 0))
	r.settle(1)
	r.all(callEvent(0, impl.OpTake, 0, 0), stepEvent(0))
	r.all(callEvent(2, impl.OpTake, 0, 0))
	r.settle(2)
	r.settle(1)
	r.all(callEvent(2, impl.OpTake, 0, 0))
	r.settle(2)
	r.all(callEvent(3, impl.OpPut, 33, 0))
	r.settle(3)
	r.settle(2)
	r.all(callEvent(2, impl.OpTake, 0, 0))
	r.settle(2)
	wantWaiters(t, "ahead of it", r.m.Arena.Cells, 2)
	r.steps(0, 3)
	if x := r.m.Threads[0]; x.Pc != 12 || r.waits.passes != 0 {
		t.Errorf("step 7: %+v", x)
	}
	r.settle(0)
	wantWaiters(t, "behind it", r.m.Arena.Cells, 0)
	if r.waits.passes != 1 || r.m.Threads[2].Status != impl.ThParked {
		t.Errorf("not passed: %+v %+v", r.waits, r.m.Threads[2])
	}
	r.all(callEvent(3, impl.OpPut, 44, 0))
	r.drain()
	wantThread(t, "who came behind", r.m.Threads[0], ended(0, impl.OK, 44))
	// A cancel ends it well enough.
	r.all(cancelEvent(2))
	r.drain()
	wantThread(t, "who was passed", r.m.Threads[2], ended(2, impl.ErrCancelled, 0))
	wantRun(t, "all of it", r.events, r.m, r.codes, impl.OK)
}

// everyMachineRun leads the run on in all orders of what next says; each machine is looked at once.
func everyMachineRun(r *machineRun, todo [][]impl.Event, more func(*machineRun) []impl.Event, look func(*machineRun)) int {
	type state struct {
		r    *machineRun
		todo [][]impl.Event
	}
	seen := map[string]bool{}
	open := []state{{r, todo}}
	for len(open) > 0 && !r.t.Failed() {
		last := open[len(open)-1]
		open = open[:len(open)-1]
		key := fmt.Sprint(last.r.m.Arena, last.r.m.Threads, last.r.m.Clock, last.todo, last.r.waits)
		if seen[key] {
			continue
		}
		seen[key] = true
		lead := func(e impl.Event, todo [][]impl.Event) {
			next := last.r.fork()
			next.all(e)
			open = append(open, state{next, todo})
		}
		quiet := true
		for k, x := range last.r.m.Threads {
			switch {
			case x.Status == impl.ThRuns:
				quiet = false
				lead(stepEvent(k), last.todo)
			case x.Status == impl.ThIdle && len(last.todo[k]) > 0:
				quiet = false
				rest := slices.Clone(last.todo)
				rest[k] = rest[k][1:]
				lead(last.todo[k][0], rest)
			}
		}
		for _, e := range more(last.r) {
			lead(e, last.todo)
		}
		if quiet {
			look(last.r)
		}
	}
	return len(seen)
}

// Two and three threads meet, with their steps in any order, and with a cancel at any time.
func TestMeetingsInEveryOrder(t *testing.T) {
	put := func(k, arg int) impl.Event { return callEvent(k, impl.OpPut, arg, 0) }
	take := func(k int) impl.Event { return callEvent(k, impl.OpTake, 0, 0) }
	cancelOnce := func(k int) func(*machineRun) []impl.Event {
		return func(r *machineRun) []impl.Event {
			if x := r.m.Threads[k]; x.Status == impl.ThIdle || x.Cancel {
				return nil
			}
			return []impl.Event{cancelEvent(k)}
		}
	}
	nothing := func(*machineRun) []impl.Event { return nil }
	machines := 0
	for _, c := range []struct {
		todo [][]impl.Event
		more func(*machineRun) []impl.Event
		ways int
	}{
		{[][]impl.Event{{put(0, 5)}, {take(1)}, {}, {}}, nothing, 1},
		{[][]impl.Event{{put(0, 5), put(0, 6)}, {take(1), take(1)}, {}, {}}, nothing, 1},
		{[][]impl.Event{{put(0, 5)}, {}, {put(2, 6)}, {take(3)}}, nothing, 2},
		{[][]impl.Event{{take(0)}, {take(1)}, {put(2, 6)}, {}}, nothing, 2},
		{[][]impl.Event{{put(0, 5)}, {take(1)}, {}, {}}, cancelOnce(0), 2},
		{[][]impl.Event{{put(0, 5)}, {take(1)}, {}, {}}, cancelOnce(1), 2},
	} {
		ways := map[string]bool{}
		machines += everyMachineRun(newMachineRun(t), c.todo, c.more, func(r *machineRun) {
			r.wantMet()
			if r.waits.passes > 0 {
				t.Error("passed:", r.events)
			}
			var said []string
			for _, call := range r.m.Calls {
				said = append(said, fmt.Sprint(call.Thread, call.Op, call.To == 0, call.Code, call.Result))
			}
			slices.Sort(said)
			ways[fmt.Sprint(said)] = true
		})
		if len(ways) < c.ways {
			t.Errorf("ways of %v: %v", c.todo, ways)
		}
	}
	if machines < 5000 {
		t.Error("runs that say too little: machines", machines)
	}
}

// What is called ahead does not change what a call answers.
func TestMachineCallsDoNotHangOnEarlierOnes(t *testing.T) {
	say := func(m impl.Machine, e impl.Event) string {
		x, code := impl.EventDo(m, e)
		y, codes, code2 := impl.EventsRun([]impl.Event{e, e, e})
		return fmt.Sprintln(x, code, y, codes, code2, impl.MachineOK(m), impl.EventOK(e), impl.SameMachine(m, y), impl.NewMachine())
	}
	machines := []impl.Machine{impl.NewMachine(), machineOf(putAt(0)), machineOf(parkedAt(takeAt(9)), swapAt(0)), withEnded(machineOf(popAt(0)), 3)}
	for _, m := range badMachines() {
		machines = append(machines, m)
	}
	events := rightEvents()
	for _, e := range badEvents() {
		events = append(events, e)
	}
	first := map[[2]int]string{}
	for turn := range 2 {
		for i, m := range machines {
			was := cloned(m)
			for j, e := range events {
				if (i+j)%4 != 0 {
					continue
				}
				said := say(m, e)
				if turn == 0 {
					first[[2]int{i, j}] = said
				}
				if said != first[[2]int{i, j}] {
					t.Errorf("alike arguments, other answers: %+v %+v", m, e)
				}
			}
			wantMachine(t, "what was handed in", m, was)
		}
	}
}
