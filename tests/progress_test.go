package tests

import (
	"fmt"
	"slices"
	"testing"

	"loop.example/g00624/impl"
)

func runThread(t *testing.T, what string, m impl.Machine, k, most int) (impl.Machine, int, int) {
	t.Helper()
	return ledOn(t, what, m, func(m impl.Machine) (impl.Machine, int, int) { return impl.RunThread(m, k, most) })
}

func drainMachine(t *testing.T, what string, m impl.Machine, rounds int) (impl.Machine, int) {
	t.Helper()
	got, _, code := ledOn(t, what, m, func(m impl.Machine) (impl.Machine, int, int) {
		got, code := impl.DrainMachine(m, rounds)
		return got, 0, code
	})
	return got, code
}

func wantRunThread(t *testing.T, what string, m impl.Machine, k, most int, want impl.Machine, steps int) {
	t.Helper()
	got, n, code := runThread(t, what, m, k, most)
	wantCode(t, what, code, impl.OK)
	wantMachine(t, what, got, want)
	if n != steps {
		t.Errorf("%s: %d steps, want %d", what, n, steps)
	}
}

func wantDrained(t *testing.T, what string, m impl.Machine, rounds int, want impl.Machine) {
	t.Helper()
	got, code := drainMachine(t, what, m, rounds)
	wantCode(t, what, code, impl.OK)
	wantMachine(t, what, got, want)
}

// runByEvents is what the chapter says of RunThread, with an event for each step.
func runByEvents(m impl.Machine, k, most int) (impl.Machine, int) {
	for n := range most {
		next, code := impl.EventDo(m, stepEvent(k))
		if code != impl.OK {
			return m, n
		}
		m = next
	}
	return m, most
}

// drainByEvents is what the chapter says of DrainMachine: who does not run, or has no room, takes no step.
func drainByEvents(m impl.Machine, rounds int) impl.Machine {
	for range rounds {
		for k := range 4 {
			m, _ = impl.EventDo(m, stepEvent(k))
		}
	}
	return m
}

// led is the machine behind these events, all of which come to OK.
func led(t *testing.T, m impl.Machine, list ...impl.Event) impl.Machine {
	t.Helper()
	for _, e := range list {
		next, code := impl.EventDo(m, e)
		wantCode(t, fmt.Sprintf("%+v", e), code, impl.OK)
		m = next
	}
	return m
}

// begins is the machine when the thread has begun a call, and has taken so many steps.
func begins(t *testing.T, m impl.Machine, k, op, arg, steps int) impl.Machine {
	t.Helper()
	return led(t, led(t, m, callEvent(k, op, arg, 0)), slices.Repeat([]impl.Event{stepEvent(k)}, steps)...)
}

// endless is a machine of four puts whose tail goes round in a ring of two
// nodes, so that all of them run on and on.
func endless() impl.Machine {
	ring := append(withCell(emptyTree(), impl.QueueTail, 31), 0, 37, 0, 0, 31, 0)
	m := withCells(machineOf(), ring)
	for k := range 4 {
		m = withThread(m, running(k, impl.OpPut, k, 0, [5]int{}))
	}
	return m
}

func wantIds(t *testing.T, what string, ask func(impl.Machine) ([]int, int), m impl.Machine, want ...int) {
	t.Helper()
	list, code := ask(m)
	if code != impl.OK || !slices.Equal(list, want) {
		t.Errorf("%s: threads %v, code %d, want %v", what, list, code, want)
	}
}

func wantIs(t *testing.T, what string, ask func(impl.Machine) (bool, int), m impl.Machine, want bool) {
	t.Helper()
	if is, code := ask(m); is != want || code != impl.OK {
		t.Errorf("%s: %v, code %d, want %v", what, is, code, want)
	}
}

// wantState is all that is told of who runs and who is parked.
func wantState(t *testing.T, what string, m impl.Machine, runs, parked []int, noneMissed bool) {
	t.Helper()
	wantIds(t, what+", RunsOf", impl.RunsOf, m, runs...)
	wantIds(t, what+", ParkedOf", impl.ParkedOf, m, parked...)
	wantIs(t, what+", IsQuiet", impl.IsQuiet, m, len(runs) == 0)
	wantIs(t, what+", NoneMissed", impl.NoneMissed, m, noneMissed)
}

// Every machine of four threads each of which is idle, runs a call of any kind,
// or is parked with one that may wait.
func TestStateOfEveryFourThreads(t *testing.T) {
	states := func(k int) []impl.Thread {
		all := []impl.Thread{ended(k, impl.ErrTimeout, 0)}
		for _, kind := range callKinds {
			x := running(k, kind.op, 0, (k*5+kind.op)%17, [5]int{k})
			all = append(all, x)
			if kind.waits {
				all = append(all, parkedAt(x))
			}
		}
		return all
	}
	seen := map[bool]int{}
	for _, a := range states(0) {
		for _, b := range states(1) {
			for _, c := range states(2) {
				for _, d := range states(3) {
					var runs, parked []int
					var with [7]int
					for k, x := range []impl.Thread{a, b, c, d} {
						switch x.Status {
						case impl.ThRuns:
							runs = append(runs, k)
						case impl.ThParked:
							parked = append(parked, k)
							with[x.Op]++
						}
					}
					missed := with[1]*with[2] > 0 || with[3] >= 2
					none := len(runs) > 0 || !missed
					wantState(t, "four threads", machineOf(a, b, c, d), runs, parked, none)
					seen[none]++
				}
			}
		}
		if t.Failed() {
			t.FailNow()
		}
	}
	if seen[true]+seen[false] != 10000 || seen[false] < 100 {
		t.Error("machines that say too little:", seen)
	}
}

func TestNoneMissed(t *testing.T) {
	parked := func(ops ...int) impl.Machine {
		m := machineOf()
		for k, op := range ops {
			if op != 0 {
				m = withThread(m, parkedAt(running(k, op, 0, 9, [5]int{})))
			}
		}
		return m
	}
	for what, c := range map[string]struct {
		ops  []int
		want bool
	}{
		"nobody":                        {nil, true},
		"a put":                         {[]int{1}, true},
		"a put, the last thread":        {[]int{0, 0, 0, 1}, true},
		"puts alone":                    {[]int{1, 1, 1}, true},
		"four puts":                     {[]int{1, 1, 1, 1}, true},
		"a take":                        {[]int{0, 2}, true},
		"takes alone":                   {[]int{2, 0, 2, 2}, true},
		"four takes":                    {[]int{2, 2, 2, 2}, true},
		"a put and a take":              {[]int{1, 2}, false},
		"a take and a put":              {[]int{2, 1}, false},
		"a put and a take, far apart":   {[]int{1, 0, 0, 2}, false},
		"a take and a put, far apart":   {[]int{2, 0, 0, 1}, false},
		"two of either":                 {[]int{1, 2, 2, 1}, false},
		"three puts and a take":         {[]int{1, 1, 1, 2}, false},
		"three takes and a put":         {[]int{2, 1, 2, 2}, false},
		"one swap":                      {[]int{3}, true},
		"one swap, the last thread":     {[]int{0, 0, 0, 3}, true},
		"two swaps":                     {[]int{3, 3}, false},
		"two swaps, far apart":          {[]int{3, 0, 0, 3}, false},
		"two swaps, the last threads":   {[]int{0, 0, 3, 3}, false},
		"three swaps":                   {[]int{3, 3, 3}, false},
		"four swaps":                    {[]int{3, 3, 3, 3}, false},
		"a swap beside a put":           {[]int{3, 1}, true},
		"a swap beside puts":            {[]int{1, 3, 1, 1}, true},
		"a swap beside a take":          {[]int{2, 3}, true},
		"a swap beside takes":           {[]int{2, 2, 2, 3}, true},
		"a swap beside a put and takes": {[]int{2, 3, 1, 2}, false},
		"two swaps beside a put":        {[]int{3, 1, 3}, false},
		"two swaps beside takes":        {[]int{2, 3, 2, 3}, false},
		"two swaps, a put and a take":   {[]int{3, 2, 3, 1}, false},
	} {
		m := parked(c.ops...)
		wantIs(t, what, impl.NoneMissed, m, c.want)
		// Whatever runs beside them may come for them.
		for _, kind := range callKinds {
			if len(c.ops) < 4 {
				x := withThread(m, running(3, kind.op, 0, 0, [5]int{}))
				wantIs(t, what+", a "+kind.word+" runs", impl.NoneMissed, x, true)
			}
		}
	}
	// Who would give up, or has a permit, waits none the less until it runs.
	m := atTimes(parked(1, 2), 9, 20)
	m.Threads[0] = withPermit(cancelled(m.Threads[0]), true)
	m.Threads[1].Until = 4
	wantIs(t, "both would give up", impl.NoneMissed, m, false)
	m.Threads[1].Status = impl.ThRuns
	wantIs(t, "one of them runs", impl.NoneMissed, m, true)
	// What calls that ended were does not count, nor what is under way of others.
	m = parked(1, 0)
	m.Calls = append(m.Calls, takeOver(3, 1, 4), byThread(1, failedCall(takeOver(0, 5, 9), impl.ErrTimeout)))
	wantIs(t, "takes that ended", impl.NoneMissed, m, true)
}

func TestRunThread(t *testing.T) {
	fresh := impl.NewMachine()
	put := begins(t, fresh, 2, impl.OpPut, 7, 0)
	permit := cloned(put)
	permit.Threads[2].Permit = true
	waits := begins(t, fresh, 0, impl.OpPut, 5, 7)
	for what, c := range map[string]struct {
		m             impl.Machine
		k, most       int
		steps, status int
		pc, result    int
	}{
		"idle, none":                        {fresh, 2, 0, 0, impl.ThIdle, 0, 0},
		"idle, one":                         {fresh, 2, 1, 0, impl.ThIdle, 0, 0},
		"idle, the last thread":             {fresh, 3, 1000, 0, impl.ThIdle, 0, 0},
		"idle beside one that runs":         {put, 1, 1000, 0, impl.ThIdle, 0, 0},
		"parked, none":                      {waits, 0, 0, 0, impl.ThParked, 9, 0},
		"parked, one":                       {waits, 0, 1, 0, impl.ThParked, 9, 0},
		"parked":                            {waits, 0, 1000, 0, impl.ThParked, 9, 0},
		"it runs, none":                     {put, 2, 0, 0, impl.ThRuns, 0, 0},
		"it runs, one":                      {put, 2, 1, 1, impl.ThRuns, 1, 0},
		"it would go on":                    {put, 2, 6, 6, impl.ThRuns, 9, 0},
		"it parks at most":                  {put, 2, 7, 7, impl.ThParked, 9, 0},
		"it parks ahead of most":            {put, 2, 8, 7, impl.ThParked, 9, 0},
		"it parks far ahead of most":        {put, 2, 1000, 7, impl.ThParked, 9, 0},
		"its permit is used up at most":     {permit, 2, 7, 7, impl.ThRuns, 9, 0},
		"it parks behind its permit":        {permit, 2, 1000, 8, impl.ThParked, 9, 0},
		"a swap parks":                      {begins(t, fresh, 3, impl.OpSwap, 7, 0), 3, 1000, 4, impl.ThParked, 3, 0},
		"a pop ends at most":                {begins(t, fresh, 3, impl.OpPop, 0, 0), 3, 1, 1, impl.ThIdle, 0, 0},
		"a pop ends ahead of most":          {begins(t, fresh, 3, impl.OpPop, 0, 0), 3, 2, 1, impl.ThIdle, 0, 0},
		"a push would go on":                {begins(t, fresh, 1, impl.OpPush, 7, 0), 1, 3, 3, impl.ThRuns, 3, 0},
		"a push ends at most":               {begins(t, fresh, 1, impl.OpPush, 7, 0), 1, 4, 4, impl.ThIdle, 0, 7},
		"a push ends ahead of most":         {begins(t, fresh, 1, impl.OpPush, 7, 0), 1, 1000, 4, impl.ThIdle, 0, 7},
		"a count goes on from where it was": {begins(t, fresh, 0, impl.OpCount, 0, 2), 0, 1000, 1, impl.ThIdle, 0, 0},
		"a take is served by who waits":     {begins(t, waits, 1, impl.OpTake, 0, 0), 1, 1000, 7, impl.ThIdle, 0, 5},
		"a take, ahead of its wake":         {begins(t, waits, 1, impl.OpTake, 0, 0), 1, 6, 6, impl.ThRuns, 15, 0},
		"it is cancelled":                   {led(t, waits, cancelEvent(0)), 0, 1000, 2, impl.ThIdle, 0, 0},
		"on and on, none":                   {endless(), 1, 0, 0, impl.ThRuns, 0, 0},
		"on and on, one":                    {endless(), 1, 1, 1, impl.ThRuns, 1, 0},
		"on and on, ahead of the bound":     {endless(), 3, 999, 999, impl.ThRuns, 3, 0},
		"on and on, at the bound":           {endless(), 0, 1000, 1000, impl.ThRuns, 0, 0},
	} {
		want, steps := runByEvents(c.m, c.k, c.most)
		wantRunThread(t, what, c.m, c.k, c.most, want, steps)
		x := want.Threads[c.k]
		if steps != c.steps || want.Steps != c.m.Steps+steps || x.Status != c.status || x.Pc != c.pc || x.Result != c.result {
			t.Errorf("%s: %d steps, %+v", what, steps, x)
		}
	}
}

// No thread but k takes a step, though others run, and one of them is woken.
func TestRunThreadIsOfOneThread(t *testing.T) {
	for k := range 4 {
		for most := range 9 {
			m := endless()
			got, n, code := runThread(t, "on and on", m, k, most)
			wantCode(t, "on and on", code, impl.OK)
			for other := range 4 {
				if other != k {
					wantThread(t, fmt.Sprint("beside ", k), got.Threads[other], m.Threads[other])
				}
			}
			if n != most || got.Steps != 20+most || got.Clock != 4 {
				t.Errorf("steps of %d: %d, and %d and %d", k, n, got.Steps, got.Clock)
			}
		}
	}
	m := begins(t, impl.NewMachine(), 0, impl.OpPut, 5, 7)
	m = begins(t, m, 1, impl.OpTake, 0, 0)
	m = begins(t, m, 2, impl.OpCount, 0, 1)
	got, n, code := runThread(t, "a take that wakes", m, 1, 1000)
	wantCode(t, "a take that wakes", code, impl.OK)
	wantState(t, "a take that wakes", got, []int{0, 2}, nil, true)
	if x := got.Threads[0]; n != 7 || x != withStatus(m.Threads[0], impl.ThRuns) {
		t.Errorf("a take that wakes: %d steps, %+v", n, x)
	}
	wantThread(t, "beside it", got.Threads[2], m.Threads[2])
}

func TestDrainMachine(t *testing.T) {
	fresh := impl.NewMachine()
	m := endless()
	for _, rounds := range []int{0, 1, 2, 3, 17, 299, 300} {
		what := fmt.Sprint("on and on, rounds ", rounds)
		got, code := drainMachine(t, what, m, rounds)
		wantCode(t, what, code, impl.OK)
		if got.Steps != 20+4*rounds {
			t.Errorf("%s: steps %d", what, got.Steps)
		}
		if rounds == 0 {
			wantMachine(t, what, got, m)
		} else {
			wantMachine(t, what, got, drainByEvents(m, rounds))
		}
		wantState(t, what, got, []int{0, 1, 2, 3}, nil, true)
	}
	waits := begins(t, begins(t, fresh, 0, impl.OpPut, 5, 7), 3, impl.OpSwap, 8, 4)
	for what, m := range map[string]impl.Machine{"all idle": fresh, "idle and parked": waits} {
		for _, rounds := range []int{0, 1, 300} {
			wantDrained(t, what, m, rounds, m)
		}
	}
	// Three that run: one ends at its third step, one at its second, and one parks at its seventh.
	m = begins(t, fresh, 0, impl.OpCount, 0, 0)
	m = begins(t, m, 1, impl.OpCount, 0, 1)
	m = begins(t, m, 3, impl.OpTake, 0, 0)
	for rounds, steps := range []int{0, 3, 6, 8, 9, 10, 11, 12, 12, 12} {
		what := fmt.Sprint("rounds ", rounds)
		wantDrained(t, what, m, rounds, drainByEvents(m, rounds))
		got, _ := impl.DrainMachine(m, rounds)
		if got.Steps != 1+steps {
			t.Errorf("%s: steps %d, want %d more", what, got.Steps, steps)
		}
	}
	got, code := drainMachine(t, "all of them", m, 300)
	wantCode(t, "all of them", code, impl.OK)
	wantState(t, "all of them", got, nil, []int{3}, true)
	for k, want := range []impl.Call{{Op: impl.OpCount, To: 8, Result: 1}, {Thread: 1, Op: impl.OpCount, To: 6}, {Thread: 3, Op: impl.OpTake, From: 1}} {
		if got.Calls[k] != want {
			t.Errorf("call %d: %+v, want %+v", k, got.Calls[k], want)
		}
	}
}

// Who is woken ahead of its own turn takes a step in that round, who is woken behind it does not.
func TestDrainWakesWithinARound(t *testing.T) {
	for wakes := range 4 {
		for woken := range 4 {
			if wakes == woken {
				continue
			}
			what := fmt.Sprint(wakes, " wakes ", woken)
			meets := begins(t, begins(t, impl.NewMachine(), woken, impl.OpPut, 5, 7), wakes, impl.OpTake, 0, 6)
			swaps := begins(t, begins(t, impl.NewMachine(), woken, impl.OpSwap, 5, 4), wakes, impl.OpSwap, 8, 4)
			for kind, m := range map[string]impl.Machine{"a put": meets, "a swap": swaps} {
				what := what + ", " + kind
				wantState(t, what, m, []int{wakes}, []int{woken}, true)
				got, code := drainMachine(t, what, m, 1)
				wantCode(t, what, code, impl.OK)
				wantThread(t, what, got.Threads[wakes], ended(wakes, impl.OK, 5))
				want, steps := withStatus(m.Threads[woken], impl.ThRuns), m.Steps+1
				if wakes < woken {
					steps++
					if kind == "a put" {
						want.Pc, want.Regs[4] = 11, 0
					} else {
						want = ended(woken, impl.OK, 8)
					}
				}
				wantThread(t, what+", who is woken", got.Threads[woken], want)
				if got.Steps != steps {
					t.Errorf("%s: steps %d, want %d", what, got.Steps, steps)
				}
				got, code = drainMachine(t, what, m, 3)
				wantCode(t, what, code, impl.OK)
				wantState(t, what+", three rounds", got, nil, nil, true)
				if x := got.Threads[woken]; x.Code != impl.OK || x.Status != impl.ThIdle {
					t.Errorf("%s: %+v", what, x)
				}
			}
		}
	}
}

// Threads take their steps from 0 on: the first one of two that change one cell changes it.
func TestDrainIsInTheOrderOfThreads(t *testing.T) {
	for first := range 4 {
		for second := first + 1; second < 4; second++ {
			for _, begun := range [][2]int{{first, second}, {second, first}} {
				m := begins(t, impl.NewMachine(), begun[0], impl.OpPush, begun[0], 3)
				m = begins(t, m, begun[1], impl.OpPush, begun[1], 3)
				got, code := drainMachine(t, "two pushes", m, 1)
				wantCode(t, "two pushes", code, impl.OK)
				wantThread(t, "the first one", got.Threads[first], ended(first, impl.OK, first))
				if x := got.Threads[second]; x.Status != impl.ThRuns || x.Pc != 1 || got.Steps != 8 {
					t.Errorf("the second one: %+v at %d", x, got.Steps)
				}
			}
		}
	}
	pops := impl.NewMachine()
	for _, k := range []int{2, 0, 3, 1} {
		pops = begins(t, pops, k, impl.OpPop, 0, 0)
	}
	got, code := drainMachine(t, "four pops", pops, 1)
	wantCode(t, "four pops", code, impl.OK)
	for _, c := range got.Calls {
		if c != (impl.Call{Thread: c.Thread, Op: impl.OpPop, To: c.Thread + 1, Code: impl.ErrEmpty}) {
			t.Errorf("four pops: %+v", c)
		}
	}
}

// A step for which the machine has no room is not taken, and has no code here.
func TestProgressNearTheLastStep(t *testing.T) {
	for room := range 10 {
		m := atTimes(endless(), 4, impl.MaxTime-room)
		for _, most := range []int{0, 1, 5, 9, 10, 1000} {
			what := fmt.Sprint("room for ", room, ", at most ", most)
			want, steps := runByEvents(m, 2, most)
			wantRunThread(t, what, m, 2, most, want, steps)
			if steps != min(room, most) || want.Steps != m.Steps+steps {
				t.Errorf("%s: %d steps, and %d", what, steps, want.Steps)
			}
		}
		for _, rounds := range []int{0, 1, 2, 3, 300} {
			what := fmt.Sprint("room for ", room, ", rounds ", rounds)
			got, code := drainMachine(t, what, m, rounds)
			wantCode(t, what, code, impl.OK)
			wantMachine(t, what, got, drainByEvents(m, rounds))
			if got.Steps != min(impl.MaxTime, m.Steps+4*rounds) {
				t.Errorf("%s: steps %d", what, got.Steps)
			}
			wantState(t, what, got, []int{0, 1, 2, 3}, nil, true)
		}
	}
	// Three counts and room for five steps: the last one has just begun its second step then.
	m := impl.NewMachine()
	for _, k := range []int{0, 2, 3} {
		m = begins(t, m, k, impl.OpCount, 0, 0)
	}
	got, code := drainMachine(t, "counts", atTimes(m, 0, impl.MaxTime-5), 300)
	wantCode(t, "counts", code, impl.OK)
	for k, pc := range []int{2, 0, 2, 1} {
		if x := got.Threads[k]; x.Pc != pc {
			t.Errorf("counts: %+v", x)
		}
	}
	for k, x := range []impl.Thread{{Id: 0}, parkedAt(running(1, impl.OpSwap, 7, 3, [5]int{})), putAt(0)} {
		m := atTimes(machineOf(x), 4, impl.MaxTime)
		wantRunThread(t, "no room at all", m, k, 1000, m, 0)
		wantDrained(t, "no room at all", m, 300, m)
	}
	// The last step is taken, and the call ends with it.
	m = atTimes(machineOf(popAt(0)), 4, impl.MaxTime-1)
	want := noted(atTimes(m, 4, impl.MaxTime), 3, impl.ErrEmpty, 0)
	wantRunThread(t, "the last step", m, 3, 1000, want, 1)
	wantDrained(t, "the last step", m, 300, want)
}

// In an arena that is full a call fails, and all else stays.
func TestProgressWithoutRoom(t *testing.T) {
	// A put and a swap wait, and 5 lies on the stack.
	m := begins(t, impl.NewMachine(), 0, impl.OpPut, 5, 7)
	m = begins(t, m, 1, impl.OpSwap, 8, 4)
	m = begins(t, m, 3, impl.OpPush, 5, 4)
	for room := range 4 {
		full := withCells(m, fullQueue(m.Arena.Cells, room))
		for _, op := range []int{impl.OpPut, impl.OpPush} {
			needs, steps := 3, 4
			if op == impl.OpPush {
				needs, steps = 2, 1
			}
			what := fmt.Sprint("room for ", room, ", ", callKinds[op-1].word)
			begun := led(t, full, callEvent(3, op, 7, 0))
			got, n, code := runThread(t, what, begun, 3, 1000)
			wantCode(t, what, code, impl.OK)
			if room >= needs {
				if n <= steps || got.Threads[3].Code != impl.OK || len(got.Arena.Cells) != impl.MaxCells-room+needs {
					t.Errorf("%s: %d steps, %+v", what, n, got.Threads[3])
				}
				continue
			}
			want := noted(atTimes(begun, 0, begun.Steps+steps), 3, impl.ErrFull, 0)
			wantMachine(t, what, got, want)
			wantDrained(t, what, begun, 300, want)
			wantState(t, what, got, nil, []int{0, 1}, true)
		}
	}
	// What needs no cells goes on: a take of what waits, a swap with who offers, a pop, a count.
	full := withCells(m, fullQueue(m.Arena.Cells, 0))
	for what, c := range map[string]struct {
		op, arg, result int
		parked          []int
	}{
		"a take":  {impl.OpTake, 0, 5, []int{1}},
		"a swap":  {impl.OpSwap, 7, 8, []int{0}},
		"a pop":   {impl.OpPop, 0, 5, []int{0, 1}},
		"a count": {impl.OpCount, 0, 0, []int{0, 1}},
	} {
		got, code := drainMachine(t, what, led(t, full, callEvent(3, c.op, c.arg, 0)), 300)
		wantCode(t, what, code, impl.OK)
		wantThread(t, what, got.Threads[3], ended(3, impl.OK, c.result))
		wantState(t, what, got, nil, c.parked, true)
	}
	// Four that need cells, and room for one of them.
	m = withCells(impl.NewMachine(), fullQueue(emptyTree(), 3))
	for k := range 4 {
		m = led(t, m, callEvent(k, impl.OpSwap, k, 0))
	}
	for k := range 4 {
		m.Threads[k].Pc = 1
	}
	got, code := drainMachine(t, "four swaps", m, 300)
	wantCode(t, "four swaps", code, impl.OK)
	wantState(t, "four swaps", got, nil, []int{0}, true)
	for k := 1; k < 4; k++ {
		wantThread(t, "without room", got.Threads[k], ended(k, impl.ErrFull, 0))
	}
}

// wantNoProgress: each call answers the code, and all else is zero.
func wantNoProgress(t *testing.T, what string, m impl.Machine, k, most, rounds int, run, drain int) {
	t.Helper()
	got, n, code := runThread(t, what+", RunThread", m, k, most)
	wantCode(t, what+", RunThread", code, run)
	wantMachine(t, what+", RunThread", got, impl.Machine{})
	if n != 0 {
		t.Errorf("%s: RunThread says %d steps", what, n)
	}
	got, code = drainMachine(t, what+", DrainMachine", m, rounds)
	wantCode(t, what+", DrainMachine", code, drain)
	wantMachine(t, what+", DrainMachine", got, impl.Machine{})
}

func TestProgressOutOfBounds(t *testing.T) {
	below, above := append([]int{-1, -1000}, farNumbers[:3]...), farNumbers[3:]
	for what, m := range map[string]impl.Machine{"new": impl.NewMachine(), "on and on": endless(), "no room": atTimes(endless(), 4, impl.MaxTime), "parked": machineOf(parkedAt(takeAt(9)))} {
		for _, k := range slices.Concat(below, above, []int{4, 5, 16}) {
			for _, most := range []int{0, 1, 1000, 1001, -1} {
				wantNoProgress(t, fmt.Sprint(what, ", thread ", k, ", at most ", most), m, k, most, -1, impl.ErrRange, impl.ErrRange)
			}
		}
		for _, n := range slices.Concat(below, above, []int{1001, 1002, 2000}) {
			for k := range 4 {
				wantNoProgress(t, fmt.Sprint(what, ", thread ", k, ", at most ", n), m, k, n, n, impl.ErrRange, impl.ErrRange)
			}
		}
		for _, n := range []int{301, 302, 1000} {
			wantNoProgress(t, fmt.Sprint(what, ", rounds ", n), m, -1, 0, n, impl.ErrRange, impl.ErrRange)
			_, _, code := impl.RunThread(m, 0, n)
			wantCode(t, "most has another bound", code, impl.OK)
		}
	}
}

// A machine that is not right comes ahead of a number that is out of its bounds.
func TestProgressOfBadMachines(t *testing.T) {
	for name, m := range badMachines() {
		wantMachineOK(t, name, m, false)
		for _, n := range append([]int{-1, 0, 1, 3, 4, 300, 301, 1000, 1001}, farNumbers...) {
			wantNoProgress(t, fmt.Sprint(name, ", thread ", n), m, n, 1, n, impl.ErrBad, impl.ErrBad)
			wantNoProgress(t, fmt.Sprint(name, ", at most ", n), m, 3, n, 1, impl.ErrBad, impl.ErrBad)
			wantNoProgress(t, fmt.Sprint(name, ", both ", n), m, n, n, 1, impl.ErrBad, impl.ErrBad)
		}
		for word, ask := range map[string]func(impl.Machine) ([]int, int){"RunsOf": impl.RunsOf, "ParkedOf": impl.ParkedOf} {
			if list, code := ask(m); len(list) != 0 || code != impl.ErrBad {
				t.Errorf("%s: %s is %v %d", name, word, list, code)
			}
		}
		for word, ask := range map[string]func(impl.Machine) (bool, int){"IsQuiet": impl.IsQuiet, "NoneMissed": impl.NoneMissed} {
			if is, code := ask(m); is || code != impl.ErrBad {
				t.Errorf("%s: %s is %v %d", name, word, is, code)
			}
		}
	}
}
