package tests

import (
	"fmt"
	"math/rand"
	"slices"
	"testing"

	"loop.example/g00624/impl"
)

// callAccount tells the calls of a run by its events and its threads, and by
// nothing that the machine says of calls.
type callAccount struct {
	calls []impl.Call
	// under is where the thread's call under way is, or -1.
	under [4]int
	// pairs are two that were under way at one time.
	pairs int
}

func newCallAccount() *callAccount { return &callAccount{under: [4]int{-1, -1, -1, -1}} }

func (a *callAccount) note(e impl.Event, code int, is impl.Machine) {
	if code != impl.OK {
		return
	}
	x := is.Threads[e.Thread]
	switch {
	case e.Kind == impl.EvCall:
		for _, at := range a.under {
			if at >= 0 {
				a.pairs++
			}
		}
		a.under[e.Thread] = len(a.calls)
		a.calls = append(a.calls, impl.Call{Thread: e.Thread, Op: e.Op, Arg: e.Arg, From: is.Steps})
	case e.Kind == impl.EvStep && x.Status == impl.ThIdle:
		c := &a.calls[a.under[e.Thread]]
		c.To, c.Code, c.Result = is.Steps, x.Code, x.Result
		a.under[e.Thread] = -1
	}
}

// want: the account's calls lie in its list in the order in which they began.
func (a *callAccount) want(t *testing.T, what string, m impl.Machine) {
	t.Helper()
	var kinds, good [6][]impl.Call
	var threads [4][]impl.Call
	var open []impl.Call
	for i, c := range a.calls {
		kinds[c.Op-1] = append(kinds[c.Op-1], c)
		threads[c.Thread] = append(threads[c.Thread], c)
		if a.under[c.Thread] == i {
			open = append(open, c)
		} else if c.Code == impl.OK {
			good[c.Op-1] = append(good[c.Op-1], c)
		}
	}
	for i, k := range callKinds {
		list, code := impl.CallsOf(m, k.op)
		wantCalls(t, what+", CallsOf "+k.word, list, code, kinds[i], impl.OK)
		list, code = impl.GoodCalls(m, k.op)
		wantCalls(t, what+", GoodCalls "+k.word, list, code, good[i], impl.OK)
	}
	list, code := impl.OpenCalls(m)
	wantCalls(t, what+", OpenCalls", list, code, open, impl.OK)
	for k, own := range threads {
		list, code := impl.ThreadCalls(m, k)
		wantCalls(t, fmt.Sprint(what, ", ThreadCalls ", k), list, code, own, impl.OK)
		if len(own) == 0 {
			wantLast(t, what, m, k, impl.Call{}, impl.ErrNone)
		} else {
			wantLast(t, what, m, k, own[len(own)-1], impl.OK)
		}
	}
	wantConcurrent(t, what, m, a.pairs, impl.OK)
}

// wantOneOfThree is promise 10: of two calls one is ahead of the other one, or
// they overlap; of a thread's the one that began first is ahead.
func (a *callAccount) wantOneOfThree(t *testing.T) (seen map[inOrderOf]int) {
	t.Helper()
	seen = map[inOrderOf]int{}
	for i, b := range a.calls {
		for _, c := range a.calls[:i] {
			is := orderOf(t, "two calls of a machine", c, b)
			seen[is]++
			if is != (inOrderOf{before: true}) && is != (inOrderOf{overlap: true}) || is.overlap && b.Thread == c.Thread {
				t.Errorf("%+v and behind it %+v: %+v", c, b, is)
			}
		}
	}
	return seen
}

// Promise 10, and what is told of calls, in runs of all kinds of events, all along.
func TestHistoriesOfEvents(t *testing.T) {
	seen, open := map[inOrderOf]int{}, map[int]int{}
	for seed := range int64(40) {
		random := rand.New(rand.NewSource(seed + 4000))
		r, a := newMachineRun(t), newCallAccount()
		for n := range 700 {
			e := ofKinds(random, r, 1, 2, 3, 4, 5, 6)
			code := r.do(e)
			a.note(e, code, r.m)
			if n < 20 || n%50 == 0 {
				a.want(t, fmt.Sprint("seed ", seed, ", events ", n), r.m)
			}
		}
		a.want(t, fmt.Sprint("seed ", seed), r.m)
		for is, n := range a.wantOneOfThree(t) {
			seen[is] += n
		}
		list, _ := impl.OpenCalls(r.m)
		open[len(list)]++
		if t.Failed() {
			t.Fatal("seed", seed)
		}
	}
	if seen[inOrderOf{overlap: true}] < 1000 || seen[inOrderOf{before: true}] < 10000 || open[4] < 10 {
		t.Error("runs that say too little:", seen, open)
	}
}

// A thread's next call may begin at the step at which its last one ended.
func TestCallsBesideEachOther(t *testing.T) {
	r := newMachineRun(t)
	r.all(callEvent(0, impl.OpCount, 0, 0), callEvent(1, impl.OpTake, 0, 0))
	r.steps(0, 3)
	r.all(callEvent(0, impl.OpCount, 0, 0), callEvent(2, impl.OpPop, 0, 0))
	r.steps(2, 1)
	r.all(callEvent(2, impl.OpPop, 0, 0))
	list, code := impl.ThreadCalls(r.m, 0)
	wantCalls(t, "of 0", list, code, []impl.Call{{Op: impl.OpCount, To: 3}, {Op: impl.OpCount, From: 3}}, impl.OK)
	list, code = impl.OpenCalls(r.m)
	wantCalls(t, "under way", list, code, []impl.Call{
		{Thread: 1, Op: impl.OpTake}, {Op: impl.OpCount, From: 3}, {Thread: 2, Op: impl.OpPop, From: 4},
	}, impl.OK)
	list, code = impl.GoodCalls(r.m, impl.OpCount)
	wantCalls(t, "good counts", list, code, []impl.Call{{Op: impl.OpCount, To: 3}}, impl.OK)
	list, code = impl.GoodCalls(r.m, impl.OpPop)
	wantCalls(t, "good pops", list, code, nil, impl.OK)
	// The take with all others, and the second count with both pops.
	wantConcurrent(t, "beside each other", r.m, 6, impl.OK)
}

// listCalls are all that answer a list of calls.
func listCalls(n int) map[string]func(impl.Machine) ([]impl.Call, int) {
	return map[string]func(impl.Machine) ([]impl.Call, int){
		"CallsOf":     func(m impl.Machine) ([]impl.Call, int) { return impl.CallsOf(m, n) },
		"GoodCalls":   func(m impl.Machine) ([]impl.Call, int) { return impl.GoodCalls(m, n) },
		"OpenCalls":   impl.OpenCalls,
		"ThreadCalls": func(m impl.Machine) ([]impl.Call, int) { return impl.ThreadCalls(m, n) },
	}
}

// Promise 1: no argument changes, and no answer shares memory with it or with another answer.
func TestHistoryCallsChangeNothing(t *testing.T) {
	thread, call := impl.Thread{Id: guard}, impl.Call{Thread: guard}
	all := histories()
	one := impl.Call{Op: impl.OpPut, Arg: 1, From: 2}
	all["nothing but what is kept"] = historyOf(one)
	all["too late"] = historyOf(spanned(7, 9), spanned(3, 21))
	for name, m := range all {
		given := m
		given.Arena.Cells = roomy(m.Arena.Cells, guard)
		given.Threads, given.Calls = roomy(m.Threads, thread), roomy(m.Calls, call)
		for n := range 8 {
			for word, ask := range listCalls(n) {
				what := fmt.Sprint(name, ", ", word, " ", n)
				got, code := ask(given)
				kept := slices.Clone(got)
				other, code2 := ask(given)
				spoil(other, impl.Call{Thread: -guard})
				wantCalls(t, what+", an answer behind another one", got, code, kept, code2)
				wantMachine(t, what+", the argument", given, m)
			}
			impl.LastOf(given, n)
			impl.Concurrent(given)
			wantMachine(t, name+", the argument", given, m)
		}
		wantRoomLeft(t, name, given.Arena.Cells, guard)
		wantRoomLeft(t, name, given.Threads, thread)
		wantRoomLeft(t, name, given.Calls, call)
	}
}

// sayHistory asks all that is told of calls, and tells all answers. An empty list and nil are the same value.
func sayHistory(m impl.Machine, a, b impl.Call, n int) string {
	s := ""
	for _, word := range []string{"CallsOf", "GoodCalls", "OpenCalls", "ThreadCalls"} {
		list, code := listCalls(n)[word](m)
		s += fmt.Sprintln(list, code)
	}
	last, code := impl.LastOf(m, n)
	pairs, code2 := impl.Concurrent(m)
	s += fmt.Sprintln(last, code, pairs, code2)
	over, code := impl.Overlaps(a, b)
	before, code2 := impl.IsBefore(a, b)
	span, code3 := impl.SpanOf(a)
	return s + fmt.Sprintln(over, code, before, code2, span, code3)
}

// Promise 1: alike arguments have alike answers, whatever was asked ahead.
func TestHistoryCallsDoNotHangOnEarlierOnes(t *testing.T) {
	var machines []impl.Machine
	for _, list := range []map[string]impl.Machine{histories(), badMachines()} {
		for _, m := range list {
			machines = append(machines, m)
		}
	}
	calls := everySpan(3)
	for _, c := range badCalls() {
		calls = append(calls, c)
	}
	numbers := append([]int{-1, 0, 1, 2, 3, 4, 5, 6, 7}, farNumbers...)
	first := map[[2]int]string{}
	for turn := range 2 {
		for i, m := range machines {
			for j, n := range numbers {
				k := i*len(numbers) + j
				said := sayHistory(cloned(m), calls[k%len(calls)], calls[7*k%len(calls)], n)
				if turn == 0 {
					first[[2]int{i, j}] = said
				}
				if said != first[[2]int{i, j}] {
					t.Errorf("alike arguments, other answers: %+v %d", m, n)
				}
			}
		}
	}
	empty, none := historyOf(), historyOf()
	empty.Calls, none.Calls = []impl.Call{}, nil
	for _, n := range numbers {
		if sayHistory(empty, calls[0], calls[1], n) != sayHistory(none, calls[0], calls[1], n) {
			t.Error("nil is told from an empty list:", n)
		}
	}
}
