package tests

import (
	"fmt"
	"math/rand"
	"slices"
	"testing"

	"loop.example/g00624/impl"
)

// drainedWhole is DrainMachine, called until no thread runs.
func drainedWhole(t *testing.T, what string, m impl.Machine) impl.Machine {
	t.Helper()
	for range 10 {
		next, code := impl.DrainMachine(m, 300)
		wantCode(t, what, code, impl.OK)
		m = next
		if quiet, _ := impl.IsQuiet(m); quiet {
			return m
		}
	}
	t.Fatalf("%s: they run on and on: %+v", what, m.Threads)
	return m
}

// wantProgress is the theorem of progress of a machine that is drained: all
// threads ended or parked, those that are parked are those that still wait in
// the queue or the slot, and none of them waits for another one. Passed are those
// that wait in the queue behind nobody, as step 7 of chapter 5 may come to.
func wantProgress(t *testing.T, what string, m impl.Machine, passed ...int) {
	t.Helper()
	var parked, waits []int
	var with [7]int
	for _, c := range m.Calls {
		if c.To == 0 {
			parked = append(parked, c.Thread)
			with[c.Op]++
		}
	}
	queue, code := impl.QueueWaiters(m.Arena)
	wantCode(t, what, code, impl.OK)
	waits = slices.Concat(queue, passed)
	if owner, _, code := impl.SwapOffer(m.Arena); code == impl.OK {
		waits = append(waits, owner)
	}
	slices.Sort(parked)
	slices.Sort(waits)
	missed := with[impl.OpPut] > 0 && with[impl.OpTake] > 0 || with[impl.OpSwap] > 1
	wantState(t, what, m, nil, parked, !missed)
	if missed && len(passed) == 0 || !slices.Equal(parked, waits) || with[4]+with[5]+with[6] > 0 {
		t.Errorf("%s: parked %v, and those that wait are %v, of %+v", what, parked, waits, m)
	}
}

// cancelsOnce are the cancels that can be done, if none was done so far.
func cancelsOnce(r *machineRun) (list []impl.Event) {
	for k, x := range r.m.Threads {
		if x.Cancel || x.Code == impl.ErrCancelled {
			return nil
		}
		if canBeCancelled(x) {
			list = append(list, cancelEvent(k))
		}
	}
	return list
}

// Promise 13 in every order of the steps of few calls, and from every moment of it.
func TestProgressInEveryOrder(t *testing.T) {
	put := func(k, v int) impl.Event { return callEvent(k, impl.OpPut, v, 0) }
	take := func(k int) impl.Event { return callEvent(k, impl.OpTake, 0, 0) }
	swap := func(k, v int) impl.Event { return callEvent(k, impl.OpSwap, v, 0) }
	push := func(k, v int) impl.Event { return callEvent(k, impl.OpPush, v, 0) }
	pop := func(k int) impl.Event { return callEvent(k, impl.OpPop, 0, 0) }
	count := func(k int) impl.Event { return callEvent(k, impl.OpCount, 0, 0) }
	nothing := func(*machineRun) []impl.Event { return nil }
	for what, c := range map[string]struct {
		todo    [][]impl.Event
		cancels func(*machineRun) []impl.Event
		parked  int
		least   int
	}{
		"a put and a take":                {[][]impl.Event{{put(0, 0)}, {take(1)}, {}, {}}, nothing, 0, 200},
		"a put and a take, a cancel":      {[][]impl.Event{{put(0, 0)}, {take(1)}, {}, {}}, cancelsOnce, 1, 1000},
		"a put and a take, turned":        {[][]impl.Event{{put(0, 1), take(0)}, {take(1), put(1, 2)}, {}, {}}, nothing, 0, 1000},
		"a put and a take, and once more": {[][]impl.Event{{}, {put(1, 1), put(1, 2)}, {}, {take(3), take(3)}}, nothing, 0, 1000},
		"two swaps":                       {[][]impl.Event{{}, {swap(1, 5)}, {}, {swap(3, 0)}}, nothing, 0, 100},
		"two swaps, a cancel":             {[][]impl.Event{{swap(0, 5)}, {swap(1, 0)}, {}, {}}, cancelsOnce, 1, 400},
		"two swaps, and once more":        {[][]impl.Event{{swap(0, 1), swap(0, 2)}, {swap(1, 3), swap(1, 4)}, {}, {}}, nothing, 0, 1000},
		"three swaps":                     {[][]impl.Event{{swap(0, 1)}, {swap(1, 3)}, {swap(2, 4)}, {}}, nothing, 1, 5000},
		"a put, a take, then two swaps":   {[][]impl.Event{{put(0, 1), swap(0, 2)}, {take(1), swap(1, 4)}, {}, {}}, nothing, 0, 1000},
		"a put and a swap apart":          {[][]impl.Event{{put(0, 1), swap(0, 2)}, {swap(1, 4), take(1)}, {}, {}}, nothing, 2, 50},
		"two pushes, a pop and a count":   {[][]impl.Event{{push(0, 1)}, {push(1, 2), pop(1)}, {}, {count(3)}}, nothing, 0, 500},
	} {
		most := 0
		machines := everyMachineRun(newMachineRun(t), c.todo, func(r *machineRun) []impl.Event {
			x := drainedWhole(t, what, r.m)
			wantProgress(t, what, x)
			return c.cancels(r)
		}, func(r *machineRun) {
			wantProgress(t, what+", quiet", r.m)
			parked, _ := impl.ParkedOf(r.m)
			most = max(most, len(parked))
		})
		if machines < c.least || most != c.parked {
			t.Errorf("%s: machines %d, parked %d", what, machines, most)
		}
	}
}

// lead does an event with no account but that of who waits.
func (r *machineRun) lead(e impl.Event) {
	r.t.Helper()
	was := r.m
	r.m, _ = impl.EventDo(was, e)
	r.waits.note(r.t, was, r.m, e.Thread)
}

// settled leads a fork of the run on, a step at a time, until no thread runs.
func (r *machineRun) settled() *machineRun {
	r.t.Helper()
	out := r.fork()
	runs := func(x impl.Thread) bool { return x.Status == impl.ThRuns }
	for n := 0; slices.ContainsFunc(out.m.Threads, runs); n++ {
		if k := n % 4; runs(out.m.Threads[k]) {
			out.lead(stepEvent(k))
		}
		if n > 12000 {
			r.t.Fatal("they run on and on:", out.m.Threads)
		}
	}
	return out
}

func (r *machineRun) passedOwners() (owners []int) {
	for _, ref := range r.waits.passed {
		owners = append(owners, r.m.Arena.Cells[ref/2+2]-1)
	}
	return owners
}

// Promise 13: whatever events come, and whenever no more calls come, all threads
// end or park, and nobody waits for somebody who waits for it.
func TestProgressOfEvents(t *testing.T) {
	mixes := [][]int{{1, 2, 3, 4, 5, 6}, {1, 2}, {3}, {1, 2, 3}, {1, 1, 1, 2, 2, 2, 3, 4, 5}, {1, 2, 2}, {3, 3, 1}, {1, 2, 3, 4}}
	parked, full, passed := [5]int{}, 0, 0
	for seed := range int64(160) {
		random := rand.New(rand.NewSource(seed + 7000))
		r := newMachineRun(t)
		events := 400
		if seed%8 == 0 {
			events = 3000
		}
		for n := range events {
			r.lead(ofKinds(random, r, mixes[seed/8%8]...))
			if n%25 != 24 {
				continue
			}
			what := fmt.Sprint("seed ", seed, ", events ", n+1)
			s := r.settled()
			wantMachine(t, what, drainedWhole(t, what, r.m), s.m)
			wantProgress(t, what, s.m, s.passedOwners()...)
			list, _ := impl.ParkedOf(s.m)
			parked[len(list)]++
			if len(s.m.Arena.Cells) > impl.MaxCells-2 {
				full++
			}
			if s.waits.passes > 0 {
				passed++
			}
		}
		if t.Failed() {
			t.FailNow()
		}
	}
	for _, n := range parked {
		if n < 50 || full < 50 || passed > 200 {
			t.Fatal("runs that say too little: parked", parked, "full", full, "passed", passed)
		}
	}
}

// The steps of chapter 5, to the word, do not keep the theorem of progress in
// every run: "else 12" of step 7 is of a node of one's own kind that waits, too.
// Thread 0 has read the tail when a put of 1 goes by, and comes upon another put
// of 1, which nobody serves from there on. Then a put and a take wait, and
// NoneMissed tells so.
func TestWhoIsPassedIsMissed(t *testing.T) {
	r := newMachineRun(t)
	call := func(k, op, arg int) {
		r.all(callEvent(k, op, arg, 0))
		r.settle(k)
	}
	r.all(callEvent(0, impl.OpPut, 10, 0), stepEvent(0))
	call(1, impl.OpPut, 11)
	call(2, impl.OpTake, 0)
	r.settle(1)
	call(1, impl.OpPut, 12)
	wantState(t, "0 alone goes on", r.m, []int{0}, []int{1}, true)
	r.settle(0)
	wantWaiters(t, "1 is passed", r.m.Arena.Cells, 0)
	wantState(t, "two puts wait", r.m, nil, []int{0, 1}, true)
	call(2, impl.OpTake, 0)
	r.settle(0)
	wantThread(t, "0 is served ahead of 1", r.m.Threads[0], ended(0, impl.OK, 10))
	call(2, impl.OpTake, 0)
	wantState(t, "1 and 2 wait", r.m, nil, []int{1, 2}, false)
	wantProgress(t, "1 was passed", r.m, 1)
	m, codes, code := impl.EventsRun(r.events)
	wantCode(t, "the events", code, impl.OK)
	wantMachine(t, "the events", m, r.m)
	if len(codes) != 57 || !slices.Equal(codes, make([]int, 57)) {
		t.Error("the events:", codes)
	}
	// Who comes as the tail is, with its own kind, does not mend it; a cancel does.
	wantDrained(t, "nothing more comes", r.m, 300, r.m)
	call(0, impl.OpTake, 0)
	wantState(t, "a take more", r.m, nil, []int{0, 1, 2}, false)
	r.all(cancelEvent(1))
	wantState(t, "1 runs", r.m, []int{1}, []int{0, 2}, true)
	r.settle(1)
	wantState(t, "1 gave up", r.m, nil, []int{0, 2}, true)
	wantRun(t, "all of it", r.events, r.m, r.codes, impl.OK)
}

// Steps of one thread may be more than 300: a take that goes past many that gave up.
func TestALongDrain(t *testing.T) {
	m := impl.NewMachine()
	for range 127 {
		m = led(t, begins(t, m, 0, impl.OpPut, 5, 7), cancelEvent(0))
		x, n, code := impl.RunThread(m, 0, 1000)
		wantCode(t, "a put that gives up", code, impl.OK)
		wantThread(t, "a put that gives up", x.Threads[0], ended(0, impl.ErrCancelled, 0))
		if n != 2 {
			t.Fatal("steps", n)
		}
		m = x
	}
	m = begins(t, m, 3, impl.OpTake, 0, 0)
	// The take goes past each node in five steps, and then waits itself.
	x, n, code := impl.RunThread(m, 3, 1000)
	wantCode(t, "the take", code, impl.OK)
	wantState(t, "the take", x, nil, []int{3}, true)
	if n != 127*5+7 {
		t.Errorf("the take: %d steps", n)
	}
	one, code := impl.DrainMachine(m, 300)
	wantCode(t, "once", code, impl.OK)
	wantState(t, "once", one, []int{3}, nil, true)
	if one.Steps != m.Steps+300 {
		t.Errorf("once: %d steps", one.Steps-m.Steps)
	}
	wantMachine(t, "until it is quiet", drainedWhole(t, "until it is quiet", m), x)
}

// anyMachine is right, but no events may lead to it.
func anyMachine(random *rand.Rand) impl.Machine {
	few := func() int { return random.Intn(60) - 6 }
	cells := emptyTree()
	if random.Intn(4) > 0 {
		cells = make([]int, 15+random.Intn(30))
		for i := range cells[1:] {
			cells[i+1] = few()
			if random.Intn(2) == 0 {
				cells[i+1] = 1 + random.Intn(4) // an owner, for one
			}
		}
	}
	if random.Intn(4) == 0 {
		cells = fullQueue(cells, random.Intn(8))
	}
	m := withCells(machineOf(), cells)
	for k := range 4 {
		kind := callKinds[random.Intn(6)]
		pc := random.Intn(17)
		if random.Intn(3) == 0 {
			pc = 15 // where a put, a take or a swap wakes somebody
		}
		x := running(k, kind.op, 0, pc, [5]int{few(), few(), few(), few(), few()})
		if kind.brings {
			x.Arg = random.Intn(1000)
		}
		if kind.waits {
			x.Status += random.Intn(2)
			x.Until = random.Intn(2) * random.Intn(9)
			x.Permit, x.Cancel = random.Intn(2) == 0, random.Intn(4) == 0
		}
		if random.Intn(5) > 0 {
			m = withThread(m, x)
		}
	}
	if random.Intn(8) == 0 {
		m.Steps = impl.MaxTime - random.Intn(40)
	}
	return m
}

// Whatever machine it is: step by step as by events, and a machine that is right.
func TestProgressIsByEvents(t *testing.T) {
	on, wakes := 0, 0
	for seed := range int64(5000) {
		random := rand.New(rand.NewSource(seed + 8000))
		m := anyMachine(random)
		wantMachineOK(t, "a machine by hand", m, true)
		what := fmt.Sprint("seed ", seed)
		k, most := random.Intn(4), random.Intn(40)
		if seed%50 == 0 {
			most = 1000
		}
		got, n, code := impl.RunThread(m, k, most)
		want, steps := runByEvents(m, k, most)
		wantCode(t, what, code, impl.OK)
		wantMachine(t, what, got, want)
		wantMachineOK(t, what, got, true)
		if n != steps {
			t.Errorf("%s: %d steps, want %d", what, n, steps)
		}
		// What is left of most takes it no further, and the rest of it goes on from there.
		first := random.Intn(most + 1)
		x, n1, _ := impl.RunThread(m, k, first)
		y, n2, _ := impl.RunThread(x, k, most-first)
		wantMachine(t, what+", in two parts", y, want)
		if n1+n2 != steps {
			t.Errorf("%s, in two parts: %d and %d, want %d", what, n1, n2, steps)
		}
		rounds := min(most, 300)
		got, code = impl.DrainMachine(m, rounds)
		want = drainByEvents(m, rounds)
		wantCode(t, what+", drained", code, impl.OK)
		wantMachine(t, what+", drained", got, want)
		wantMachineOK(t, what+", drained", got, true)
		x, _ = impl.DrainMachine(m, min(first, rounds))
		y, _ = impl.DrainMachine(x, rounds-min(first, rounds))
		wantMachine(t, what+", drained in two parts", y, want)
		if runs, _ := impl.RunsOf(got); len(runs) > 0 {
			on++
		}
		was, _ := impl.ParkedOf(m)
		for _, k := range was {
			if got.Threads[k].Status != impl.ThParked {
				wakes++
			}
		}
		if t.Failed() {
			t.FailNow()
		}
	}
	if on < 500 || wakes < 80 {
		t.Error("machines that say too little: run on", on, "woken", wakes)
	}
}

// progressMachines are right: with threads that are idle, run, and are parked.
func progressMachines() map[string]impl.Machine {
	all := pairMachines()
	all["on and on"] = endless()
	all["no room"] = atTimes(endless(), 4, impl.MaxTime)
	all["all parked"] = machineOf(parkedAt(running(0, impl.OpPut, 3, 9, [5]int{})), parkedAt(running(1, impl.OpSwap, 3, 3, [5]int{})), parkedAt(putAt(9)), parkedAt(takeAt(9)))
	all["all kinds"] = machineOf(running(0, impl.OpPush, 3, 0, [5]int{}), countAt(0), putAt(4), takeAt(9))
	return all
}

// Promise 1: no argument changes, and no answer shares memory with it or with
// another answer, also where no step is taken.
func TestProgressCallsChangeNothing(t *testing.T) {
	thread, call := impl.Thread{Id: guard}, impl.Call{Thread: guard}
	machines := progressMachines()
	for name, m := range badMachines() {
		machines["not right: "+name] = m
	}
	for name, m := range machines {
		given := m
		given.Arena.Cells = roomy(m.Arena.Cells, guard)
		given.Threads, given.Calls = roomy(m.Threads, thread), roomy(m.Calls, call)
		for word, ask := range map[string]func(impl.Machine) ([]int, int){"RunsOf": impl.RunsOf, "ParkedOf": impl.ParkedOf} {
			what := name + ", " + word
			got, code := ask(given)
			kept := slices.Clone(got)
			other, code2 := ask(given)
			spoil(other, -guard)
			if !slices.Equal(got, kept) || code != code2 {
				t.Errorf("%s: %v behind another answer, want %v", what, got, kept)
			}
			spoil(got, -guard)
			wantMachine(t, what+", the argument", given, m)
		}
		impl.IsQuiet(given)
		impl.NoneMissed(given)
		for _, n := range []int{-1, 0, 1, 2, 50} {
			for k := range 4 {
				runThread(t, fmt.Sprint(name, ", RunThread ", k, " ", n), m, k, n)
			}
			drainMachine(t, fmt.Sprint(name, ", DrainMachine ", n), m, n)
		}
		wantMachine(t, name+", the argument", given, m)
		wantRoomLeft(t, name, given.Arena.Cells, guard)
		wantRoomLeft(t, name, given.Threads, thread)
		wantRoomLeft(t, name, given.Calls, call)
	}
}

// sayProgress asks all that is told of progress, and tells all answers. An empty list and nil are the same value.
func sayProgress(m impl.Machine, k, n int) string {
	runs, code := impl.RunsOf(m)
	parked, code2 := impl.ParkedOf(m)
	quiet, code3 := impl.IsQuiet(m)
	none, code4 := impl.NoneMissed(m)
	x, steps, code5 := impl.RunThread(m, k, n)
	y, code6 := impl.DrainMachine(m, n)
	return fmt.Sprintln(runs, code, parked, code2, quiet, code3, none, code4, x, steps, code5, y, code6)
}

// Promise 1: alike arguments have alike answers, whatever was asked ahead.
func TestProgressCallsDoNotHangOnEarlierOnes(t *testing.T) {
	var machines []impl.Machine
	for _, list := range []map[string]impl.Machine{progressMachines(), badMachines()} {
		for _, m := range list {
			machines = append(machines, m)
		}
	}
	numbers := append([]int{-1, 0, 1, 2, 7, 40, 301, 1001}, farNumbers...)
	first := map[[3]int]string{}
	for turn := range 2 {
		for i, m := range machines {
			for j, n := range numbers {
				k := (i+j)%6 - 1
				said := sayProgress(cloned(m), k, n)
				if turn == 0 {
					first[[3]int{i, j}] = said
				}
				if said != first[[3]int{i, j}] {
					t.Errorf("alike arguments, other answers: %+v %d %d", m, k, n)
				}
			}
		}
	}
	empty, none := historyOf(), historyOf()
	empty.Calls, none.Calls = []impl.Call{}, nil
	for _, n := range numbers {
		if sayProgress(empty, 0, n) != sayProgress(none, 0, n) {
			t.Error("nil is told from an empty list:", n)
		}
	}
}
