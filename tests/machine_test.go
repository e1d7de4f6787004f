package tests

import (
	"fmt"
	"math"
	"slices"
	"testing"

	"loop.example/g00624/impl"
)

// begunAt is the number of steps at which the calls under way of these machines began.
const begunAt = 3

// machineOf is a machine at the clock 4 and the step 20, with these threads in
// the places of their Ids, and their calls under way; the others are idle.
func machineOf(threads ...impl.Thread) impl.Machine {
	m := impl.Machine{Arena: arenaOf(emptyTree()...), Clock: 4, Steps: 20}
	for k := range 4 {
		m.Threads = append(m.Threads, impl.Thread{Id: k})
	}
	for _, x := range threads {
		m = withThread(m, x)
	}
	return m
}

// withThread has no other call of x's under way than x's own.
func withThread(m impl.Machine, x impl.Thread) impl.Machine {
	m = cloned(m)
	m.Threads[x.Id] = x
	m.Calls = slices.DeleteFunc(m.Calls, func(c impl.Call) bool { return c.Thread == x.Id && c.To == 0 })
	if x.Status != impl.ThIdle {
		m.Calls = append(m.Calls, impl.Call{Thread: x.Id, Op: x.Op, Arg: x.Arg, From: begunAt})
	}
	return m
}

func withCells(m impl.Machine, cells []int) impl.Machine {
	m.Arena = arenaOf(cells...)
	return m
}

func atTimes(m impl.Machine, clock, steps int) impl.Machine {
	m.Clock, m.Steps = clock, steps
	return m
}

// withEnded has so many calls more that ended, ahead of the others.
func withEnded(m impl.Machine, n int) impl.Machine {
	m.Calls = append(slices.Repeat([]impl.Call{{Op: impl.OpPop, To: 1, Code: impl.ErrEmpty}}, n), m.Calls...)
	return m
}

// noted is m with the thread's call under way ended, and the thread idle.
func noted(m impl.Machine, thread, code, result int) impl.Machine {
	m = cloned(m)
	m.Threads[thread] = ended(thread, code, result)
	for i, c := range m.Calls {
		if c.Thread == thread && c.To == 0 {
			m.Calls[i].To, m.Calls[i].Code, m.Calls[i].Result = m.Steps, code, result
		}
	}
	return m
}

func cloned(m impl.Machine) impl.Machine {
	m.Arena.Cells = slices.Clone(m.Arena.Cells)
	m.Threads, m.Calls = slices.Clone(m.Threads), slices.Clone(m.Calls)
	return m
}

// sameParts does not ask SameMachine, which is one of the calls that are tested.
func sameParts(a, b impl.Machine) bool {
	return slices.Equal(a.Arena.Cells, b.Arena.Cells) && slices.Equal(a.Threads, b.Threads) &&
		a.Clock == b.Clock && a.Steps == b.Steps && slices.Equal(a.Calls, b.Calls)
}

func wantMachine(t *testing.T, what string, got, want impl.Machine) {
	t.Helper()
	if !sameParts(got, want) {
		t.Errorf("%s: machine\n%+v, want\n%+v", what, got, want)
	}
}

// roomy is a list with room behind its end, which holds what no answer does.
func roomy[T any](list []T, guard T) []T {
	return append(slices.Clone(list), slices.Repeat([]T{guard}, 8)...)[:len(list)]
}

func spoil[T comparable](list []T, with T) {
	for i := range list[:cap(list)] {
		list[:cap(list)][i] = with
	}
}

func wantRoomLeft[T comparable](t *testing.T, what string, list []T, guard T) {
	t.Helper()
	for _, v := range list[len(list):cap(list)][:8] {
		if v != guard {
			t.Errorf("%s: something was written behind the end of a list of the argument", what)
		}
	}
}

// ledOn is a call that leads a machine on and answers a number and a code, held
// against promise 1: the argument stays as it was, an answer shares no memory
// with it nor with another answer, and both are alike.
func ledOn(t *testing.T, what string, m impl.Machine, lead func(impl.Machine) (impl.Machine, int, int)) (impl.Machine, int, int) {
	t.Helper()
	thread, call := impl.Thread{Id: guard}, impl.Call{Thread: guard}
	given := m
	given.Arena.Cells = roomy(m.Arena.Cells, guard)
	given.Threads, given.Calls = roomy(m.Threads, thread), roomy(m.Calls, call)
	got, n, code := lead(given)
	other, n2, code2 := lead(given)
	if n != n2 || code != code2 || !sameParts(got, other) {
		t.Errorf("%s: alike arguments, other answers: %+v %d %d and %+v %d %d", what, got, n, code, other, n2, code2)
	}
	kept := cloned(got)
	spoil(other.Arena.Cells, -guard)
	spoil(other.Threads, impl.Thread{Id: -guard})
	spoil(other.Calls, impl.Call{Thread: -guard})
	wantMachine(t, what+", an answer behind another one", got, kept)
	wantMachine(t, what+", the argument", given, m)
	wantRoomLeft(t, what, given.Arena.Cells, guard)
	wantRoomLeft(t, what, given.Threads, thread)
	wantRoomLeft(t, what, given.Calls, call)
	return got, n, code
}

// eventDo is EventDo, held against promise 1.
func eventDo(t *testing.T, what string, m impl.Machine, e impl.Event) (impl.Machine, int) {
	t.Helper()
	got, _, code := ledOn(t, what, m, func(m impl.Machine) (impl.Machine, int, int) {
		got, code := impl.EventDo(m, e)
		return got, 0, code
	})
	return got, code
}

func wantDone(t *testing.T, what string, m impl.Machine, e impl.Event, want impl.Machine) {
	t.Helper()
	if !impl.MachineOK(m) {
		t.Errorf("%s: the machine that is handed in is not right: %+v", what, m)
	}
	got, code := eventDo(t, what, m, e)
	wantCode(t, what, code, impl.OK)
	wantMachine(t, what, got, want)
	if !impl.MachineOK(got) {
		t.Errorf("%s: not right any more: %+v", what, got)
	}
}

// wantRefused: the machine is as it was.
func wantRefused(t *testing.T, what string, m impl.Machine, e impl.Event, want int) {
	t.Helper()
	if !impl.MachineOK(m) {
		t.Errorf("%s: the machine that is handed in is not right: %+v", what, m)
	}
	got, code := eventDo(t, what, m, e)
	wantCode(t, what, code, want)
	wantMachine(t, what, got, m)
}

// wantBad: all is zero.
func wantBad(t *testing.T, what string, m impl.Machine, e impl.Event) {
	t.Helper()
	got, code := eventDo(t, what, m, e)
	wantCode(t, what, code, impl.ErrBad)
	wantMachine(t, what, got, impl.Machine{})
}

func callEvent(thread, op, arg, n int) impl.Event {
	return impl.Event{Kind: impl.EvCall, Thread: thread, Op: op, Arg: arg, N: n}
}

func stepEvent(thread int) impl.Event { return impl.Event{Kind: impl.EvStep, Thread: thread} }

func tickEvent(n int) impl.Event { return impl.Event{Kind: impl.EvTick, N: n} }

func cancelEvent(thread int) impl.Event { return impl.Event{Kind: impl.EvCancel, Thread: thread} }

func wakeEvent(thread int) impl.Event { return impl.Event{Kind: impl.EvWake, Thread: thread} }

func TestMachineConstants(t *testing.T) {
	if impl.Threads != 4 || impl.MaxEvents != 250 {
		t.Error("limits of the machine:", impl.Threads, impl.MaxEvents)
	}
	kinds := [5]int{impl.EvCall, impl.EvStep, impl.EvTick, impl.EvCancel, impl.EvWake}
	if kinds != [5]int{1, 2, 3, 4, 5} {
		t.Error("kinds of events:", kinds)
	}
}

func TestNewMachine(t *testing.T) {
	want := impl.Machine{
		Arena:   arenaOf(0, 6, 6, -1, 0, 0, 0, 0, 0, 0, 0, 0, 1, 2, 3),
		Threads: []impl.Thread{{Id: 0}, {Id: 1}, {Id: 2}, {Id: 3}},
	}
	first := impl.NewMachine()
	wantMachine(t, "NewMachine", first, want)
	if !impl.MachineOK(first) {
		t.Error("a new machine is not right")
	}
	spoil(first.Arena.Cells, guard)
	spoil(first.Threads, impl.Thread{Id: guard})
	wantMachine(t, "NewMachine after its answer was changed", impl.NewMachine(), want)
}

func TestCallOK(t *testing.T) {
	for _, k := range callKinds {
		for thread := range 4 {
			for _, arg := range []int{0, k.mostArg() / 2, k.mostArg()} {
				c := impl.Call{Thread: thread, Op: k.op, Arg: arg}
				for _, from := range []int{0, 1, 9, 999999, 1000000} {
					c.From = from
					wantCallOK(t, k.word+" under way", c, true)
				}
				for code := range 20 {
					c.Code = code
					for _, result := range []int{0, 1, 999, impl.MaxWord} {
						c.Result = result
						for _, span := range [][2]int{{0, 1}, {3, 4}, {0, 1000000}, {999999, 1000000}} {
							c.From, c.To = span[0], span[1]
							wantCallOK(t, k.word+" that ended", c, true)
						}
					}
				}
			}
		}
	}
}

func wantCallOK(t *testing.T, what string, c impl.Call, want bool) {
	t.Helper()
	if impl.CallOK(c) != want {
		t.Errorf("%s: CallOK of %+v is %v", what, c, !want)
	}
}

// badCalls are not right, whatever the machine is.
func badCalls() map[string]impl.Call {
	bad := map[string]impl.Call{
		"all zero":                    {},
		"no call that ended":          {To: 4},
		"To at From":                  {Op: impl.OpPut, From: 3, To: 3},
		"To ahead of From":            {Op: impl.OpPut, From: 3, To: 2},
		"To below":                    {Op: impl.OpPut, To: -1},
		"To above":                    {Op: impl.OpPut, To: 1000001},
		"From and To above":           {Op: impl.OpPut, From: 1000001, To: 1000002},
		"From below":                  {Op: impl.OpPut, From: -1},
		"From below of one at an end": {Op: impl.OpPut, From: -1, To: 3},
		"From above":                  {Op: impl.OpPut, From: 1000001},
		"a code under way":            {Op: impl.OpPut, From: 3, Code: impl.ErrTimeout},
		"a result under way":          {Op: impl.OpPut, From: 3, Result: 1},
		"a result below under way":    {Op: impl.OpPut, From: 3, Result: -1},
		"code 20":                     {Op: impl.OpPut, From: 3, To: 9, Code: 20},
		"code -1":                     {Op: impl.OpPut, From: 3, To: 9, Code: -1},
		"result -1":                   {Op: impl.OpTake, From: 3, To: 9, Result: -1},
		"a result above":              {Op: impl.OpTake, From: 3, To: 9, Result: impl.MaxWord + 1},
		"thread -1":                   {Thread: -1, Op: impl.OpPut},
		"thread 4":                    {Thread: 4, Op: impl.OpPut},
		"thread 4 that ended":         {Thread: 4, Op: impl.OpPut, To: 9},
		"call -1":                     {Op: -1},
		"call 7":                      {Op: 7},
	}
	for _, k := range callKinds {
		for _, arg := range []int{-1, k.mostArg() + 1, math.MaxInt, math.MinInt} {
			bad[fmt.Sprint(k.word, " of ", arg)] = impl.Call{Op: k.op, Arg: arg}
			bad[fmt.Sprint(k.word, " of ", arg, " that ended")] = impl.Call{Op: k.op, Arg: arg, To: 3}
		}
	}
	for _, v := range farNumbers {
		bad[fmt.Sprint("thread ", v)] = impl.Call{Thread: v, Op: impl.OpPop}
		bad[fmt.Sprint("call ", v)] = impl.Call{Op: v}
		bad[fmt.Sprint("From ", v)] = impl.Call{Op: impl.OpPop, From: v}
		bad[fmt.Sprint("From ", v, " to 9")] = impl.Call{Op: impl.OpPop, From: v, To: 9}
		bad[fmt.Sprint("To ", v)] = impl.Call{Op: impl.OpPop, To: v}
		bad[fmt.Sprint("code ", v)] = impl.Call{Op: impl.OpPop, To: 3, Code: v}
		bad[fmt.Sprint("result ", v)] = impl.Call{Op: impl.OpPop, To: 3, Result: v}
	}
	return bad
}

func TestCallsThatAreNotRight(t *testing.T) {
	for name, c := range badCalls() {
		wantCallOK(t, name, c, false)
		m := atTimes(machineOf(), 4, impl.MaxTime)
		m.Calls = []impl.Call{{Op: impl.OpPop, To: 1}, c}
		wantMachineOK(t, "a machine with a call: "+name, m, false)
	}
}

func wantMachineOK(t *testing.T, what string, m impl.Machine, want bool) {
	t.Helper()
	if impl.MachineOK(m) != want {
		t.Errorf("%s: MachineOK of %+v is %v", what, m, !want)
	}
}

func TestMachineOKOfCells(t *testing.T) {
	for n := range impl.MaxCells + 3 {
		wantMachineOK(t, fmt.Sprint("cells: ", n), withCells(machineOf(), make([]int, n)), n >= 15 && n <= 400)
	}
	// Whatever the cells are, if the arena is right.
	for _, a := range treeArenas() {
		wantMachineOK(t, "a right arena", withCells(machineOf(), a.Cells), len(a.Cells) >= 15)
	}
	for name, bad := range badArenas() {
		wantMachineOK(t, name, withCells(machineOf(), bad.Cells), false)
	}
	for name, cells := range map[string][]int{
		"cell 0 is 1":        withCell(emptyTree(), 0, 1),
		"the last one above": withCell(emptyTree(), 14, impl.MaxWord+1),
		"the last one below": withCell(emptyTree(), 14, -impl.MaxWord-1),
	} {
		wantMachineOK(t, name, withCells(machineOf(), cells), false)
	}
}

func TestMachineOKOfThreads(t *testing.T) {
	for _, x := range slices.Concat(idleThreads(), busyThreads(), runningThreads(), parkedThreads()) {
		wantMachineOK(t, "a right thread", machineOf(x), true)
	}
	for name, x := range badThreads() {
		m := machineOf()
		m.Threads[max(0, min(3, x.Id))] = x
		m.Calls = []impl.Call{{Thread: max(0, min(3, x.Id)), Op: x.Op, Arg: x.Arg, From: begunAt}}
		wantMachineOK(t, name, m, false)
		m.Calls = nil
		wantMachineOK(t, name+", no call under way", m, false)
	}
	for i, ids := range [][]int{nil, {}, {0}, {0, 1, 2}, {1, 2, 3}, {0, 1, 2, 3, 4}, {0, 1, 2, 3, 0}, {0, 1, 2, 3, 3}, {1, 0, 2, 3}, {0, 1, 3, 2},
		{3, 2, 1, 0}, {0, 0, 0, 0}, {0, 1, 1, 3}, {0, 1, 2, 2}, {3, 1, 2, 3}, {1, 2, 3, 0}, {1, 2, 3, 4}, {-1, 0, 1, 2}, {0, 1, 2, 4}} {
		m := machineOf()
		m.Threads = nil
		for _, id := range ids {
			m.Threads = append(m.Threads, impl.Thread{Id: id})
		}
		wantMachineOK(t, fmt.Sprint("threads ", i, ": ", ids), m, false)
	}
	long := machineOf()
	long.Threads = append(long.Threads, make([]impl.Thread, impl.MaxList)...)
	wantMachineOK(t, "a list that is too long", long, false)
}

func TestMachineOKOfTimes(t *testing.T) {
	for _, v := range []int{0, 1, 4, 999999, 1000000} {
		wantMachineOK(t, fmt.Sprint("Clock ", v), atTimes(machineOf(), v, 0), true)
		wantMachineOK(t, fmt.Sprint("Steps ", v), atTimes(machineOf(), 0, v), true)
	}
	for _, v := range timesOut {
		wantMachineOK(t, fmt.Sprint("Clock ", v), atTimes(machineOf(), v, 0), false)
		wantMachineOK(t, fmt.Sprint("Steps ", v), atTimes(machineOf(), 0, v), false)
	}
}

func TestMachineOKOfCalls(t *testing.T) {
	for n, want := range map[int]bool{0: true, 1: true, 4095: true, 4096: true, 4097: false, 5000: false} {
		wantMachineOK(t, fmt.Sprint("calls: ", n), withEnded(machineOf(), n), want)
	}
	wantMachineOK(t, "as many as there may be, the last one under way", withEnded(machineOf(popAt(0)), 4095), true)
	wantMachineOK(t, "one more, the last one under way", withEnded(machineOf(popAt(0)), 4096), false)
	bad := withEnded(machineOf(), 4096)
	bad.Calls[4095].To = 21
	wantMachineOK(t, "the last one of many is not right", bad, false)
	for _, c := range []struct {
		steps int
		call  impl.Call
		want  bool
	}{
		{20, impl.Call{From: 19, To: 20}, true}, {20, impl.Call{From: 20, To: 21}, false}, {20, impl.Call{From: 0, To: 21}, false},
		{20, impl.Call{From: 0, To: 20}, true}, {20, impl.Call{From: 21, To: 22}, false}, {0, impl.Call{From: 0, To: 1}, false},
		{1, impl.Call{From: 0, To: 1}, true}, {1000000, impl.Call{From: 999999, To: 1000000}, true},
	} {
		m := atTimes(machineOf(), 4, c.steps)
		c.call.Op = impl.OpPop
		m.Calls = []impl.Call{c.call}
		wantMachineOK(t, fmt.Sprint("an ended call at step ", c.steps, ": ", c.call), m, c.want)
	}
	for from, want := range map[int]bool{0: true, 19: true, 20: true, 21: false, 1000000: false} {
		m := machineOf(popAt(0))
		m.Calls[0].From = from
		wantMachineOK(t, fmt.Sprint("a call under way from ", from), m, want)
	}
	// Nothing is said of the order of calls, nor of how those that ended lie to each other.
	mixed := machineOf(takeAt(0))
	mixed.Calls = append(mixed.Calls, impl.Call{Thread: 3, Op: impl.OpPush, Arg: 8, From: 1, To: 9, Result: 8}, impl.Call{Thread: 3, Op: impl.OpPop, From: 0, To: 2})
	wantMachineOK(t, "calls in any order", mixed, true)
}

// A call under way of each thread that is not idle, and of no other one.
func TestMachineOKOfCallsUnderWay(t *testing.T) {
	for _, x := range slices.Concat(busyThreads(), runningThreads(), parkedThreads()) {
		m := machineOf(x)
		own := m.Calls[0]
		for name, calls := range map[string][]impl.Call{
			"none":                {},
			"two":                 {own, own},
			"two, begun apart":    {own, {Thread: own.Thread, Op: own.Op, Arg: own.Arg, From: begunAt + 1}},
			"another thread's":    {{Thread: (own.Thread + 1) % 4, Op: own.Op, Arg: own.Arg, From: begunAt}},
			"one more, another's": {own, {Thread: (own.Thread + 3) % 4, Op: own.Op, Arg: own.Arg, From: begunAt}},
			"another call":        {{Thread: own.Thread, Op: own.Op%6 + 1, From: begunAt}},
			"one more, of pop":    {own, {Thread: own.Thread, Op: own.Op%6 + 1, From: begunAt}},
			"its own that ended":  {{Thread: own.Thread, Op: own.Op, Arg: own.Arg, From: begunAt, To: 9}},
		} {
			m.Calls = calls
			wantMachineOK(t, fmt.Sprint("call ", own.Op, ", under way ", name), m, false)
		}
		m.Calls = []impl.Call{{Thread: own.Thread, Op: own.Op, Arg: own.Arg, To: 9}, own, {Thread: own.Thread, Op: own.Op, Arg: own.Arg, To: 8}}
		wantMachineOK(t, "others that ended", m, true)
		if callKinds[own.Op-1].brings {
			m.Calls = []impl.Call{own}
			m.Calls[0].Arg = (own.Arg + 1) % 1000
			wantMachineOK(t, "another Arg", m, false)
		}
	}
	for id := range 4 {
		for _, k := range callKinds {
			m := machineOf()
			m.Calls = []impl.Call{{Thread: id, Op: k.op}}
			wantMachineOK(t, "an idle thread with a call under way: "+k.word, m, false)
		}
	}
	all := machineOf(running(0, impl.OpPut, 5, 0, [5]int{}), parkedAt(running(1, impl.OpTake, 0, 9, [5]int{})), pushAt(1), running(3, impl.OpCount, 0, 2, [5]int{}))
	wantMachineOK(t, "four calls under way", all, true)
	for k := range 4 {
		m := cloned(all)
		m.Calls = slices.Delete(m.Calls, k, k+1)
		wantMachineOK(t, fmt.Sprint("the call is missing of ", k), m, false)
	}
	for k := range 4 {
		m := cloned(all)
		m.Threads[k] = ended(k, impl.OK, 5)
		wantMachineOK(t, fmt.Sprint("the call is left of ", k), m, false)
	}
}

// rightEvents are all kinds of events, with the limits of what they have.
func rightEvents() []impl.Event {
	all := []impl.Event{tickEvent(0), tickEvent(1), tickEvent(500), tickEvent(999), tickEvent(1000)}
	for k := range 4 {
		all = append(all, stepEvent(k), cancelEvent(k), wakeEvent(k))
		for _, c := range callKinds {
			for _, arg := range []int{0, c.mostArg() / 2, c.mostArg()} {
				all = append(all, callEvent(k, c.op, arg, 0))
				if c.waits {
					all = append(all, callEvent(k, c.op, arg, 1), callEvent(k, c.op, arg, 999), callEvent(k, c.op, arg, 1000))
				}
			}
		}
	}
	return all
}

// badEvents are no kind of event, or have what their kind has no use for, or what is out of its bounds.
func badEvents() map[string]impl.Event {
	bad := map[string]impl.Event{"all zero": {}, "no kind with a thread": {Thread: 1}, "no kind with N": {N: 1}}
	for _, kind := range append([]int{-1, 0, 6, 7, 257, -3}, farNumbers...) {
		bad[fmt.Sprint("kind ", kind)] = impl.Event{Kind: kind}
		bad[fmt.Sprint("kind ", kind, " of a put")] = impl.Event{Kind: kind, Op: impl.OpPut, Arg: 5, N: 9}
	}
	for _, kind := range []int{impl.EvStep, impl.EvCancel, impl.EvWake} {
		for _, v := range append([]int{-1, 1, 6}, farNumbers...) {
			bad[fmt.Sprint("kind ", kind, " with Op ", v)] = impl.Event{Kind: kind, Thread: 1, Op: v}
			bad[fmt.Sprint("kind ", kind, " with Arg ", v)] = impl.Event{Kind: kind, Thread: 1, Arg: v}
			bad[fmt.Sprint("kind ", kind, " with N ", v)] = impl.Event{Kind: kind, Thread: 1, N: v}
		}
	}
	for _, v := range append([]int{-1, 1, 3, 4}, farNumbers...) {
		bad[fmt.Sprint("tick of thread ", v)] = impl.Event{Kind: impl.EvTick, Thread: v, N: 5}
		bad[fmt.Sprint("tick with Op ", v)] = impl.Event{Kind: impl.EvTick, Op: v, N: 5}
		bad[fmt.Sprint("tick with Arg ", v)] = impl.Event{Kind: impl.EvTick, Arg: v, N: 5}
	}
	for _, v := range append([]int{-1, 4, 5}, farNumbers...) {
		for kind := impl.EvStep; kind <= impl.EvWake; kind++ {
			bad[fmt.Sprint("kind ", kind, " of thread ", v)] = impl.Event{Kind: kind, Thread: v}
		}
		bad[fmt.Sprint("call of thread ", v)] = callEvent(v, impl.OpPut, 5, 0)
	}
	for _, v := range append([]int{-1, 1001, 1002, 1000000}, farNumbers...) {
		bad[fmt.Sprint("tick of ", v)] = tickEvent(v)
		for _, k := range callKinds {
			bad[fmt.Sprint(k.word, " for ", v)] = callEvent(1, k.op, 0, v)
		}
	}
	for _, k := range callKinds {
		for _, v := range append([]int{-1, k.mostArg() + 1}, farNumbers...) {
			bad[fmt.Sprint(k.word, " of ", v)] = callEvent(1, k.op, v, 0)
		}
		if !k.waits {
			bad[k.word+" for 1"] = callEvent(1, k.op, 0, 1)
			bad[k.word+" for 1000"] = callEvent(1, k.op, 0, 1000)
		}
	}
	for _, v := range append([]int{-1, 0, 7}, farNumbers...) {
		bad[fmt.Sprint("call of kind ", v)] = callEvent(1, v, 0, 0)
	}
	return bad
}

func TestEventOK(t *testing.T) {
	for _, e := range rightEvents() {
		if !impl.EventOK(e) {
			t.Errorf("a right event is refused: %+v", e)
		}
	}
	busy := machineOf(putAt(0), parkedAt(takeAt(9)))
	for name, e := range badEvents() {
		if impl.EventOK(e) {
			t.Error("taken as right:", name)
		}
		for what, m := range map[string]impl.Machine{"a new machine": impl.NewMachine(), "a busy one": busy, "a zero one": {}} {
			wantBad(t, what+", "+name, m, e)
		}
	}
}

// badMachines are not right; each of them but for one thing.
func badMachines() map[string]impl.Machine {
	busy := machineOf(putAt(0), parkedAt(takeAt(9)))
	late, two := cloned(busy), cloned(busy)
	late.Calls[0].From = 21
	two.Calls = append(two.Calls, two.Calls[0])
	return map[string]impl.Machine{
		"all zero":          {},
		"few cells":         withCells(busy, make([]int, 14)),
		"many cells":        withCells(busy, make([]int, 401)),
		"cell 0":            withCells(busy, withCell(emptyTree(), 0, 1)),
		"three threads":     {Arena: busy.Arena, Threads: busy.Threads[:3]},
		"a call without":    {Arena: busy.Arena, Threads: busy.Threads, Steps: 20},
		"the clock":         atTimes(busy, 1000001, 20),
		"the clock below":   atTimes(busy, -1, 20),
		"steps":             atTimes(busy, 4, 1000001),
		"a call later":      late,
		"two calls":         two,
		"too many calls":    withEnded(busy, 4095),
		"a thread's result": withThread(busy, ended(0, impl.OK, -1)),
	}
}

func TestBadMachinesDoNothing(t *testing.T) {
	for name, m := range badMachines() {
		wantMachineOK(t, name, m, false)
		for _, e := range rightEvents() {
			wantBad(t, fmt.Sprint(name, ", ", e), m, e)
		}
	}
}
