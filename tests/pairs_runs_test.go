package tests

import (
	"fmt"
	"math"
	"math/rand"
	"slices"
	"testing"

	"loop.example/g00624/impl"
)

// pairAccount says of a machine what the chapter says, from every two of its
// calls, and with no map of them.
type pairAccount struct {
	calls []impl.Call
	lies  []int
}

func accountOf(m impl.Machine) pairAccount {
	a := pairAccount{calls: m.Calls}
	node := m.Arena.Cells[impl.StackTop]
	for node != 0 && len(a.lies) < impl.MaxCells {
		a.lies = append(a.lies, m.Arena.Cells[node])
		node = m.Arena.Cells[node+1]
	}
	return a
}

func isGood(c impl.Call) bool { return c.To > 0 && c.Code == impl.OK }

func isUnderWay(c impl.Call) bool { return c.To == 0 }

func bringsValue(c impl.Call) bool {
	return c.Op == impl.OpPut || c.Op == impl.OpSwap || c.Op == impl.OpPush
}

func endOf(c impl.Call) int {
	if c.To == 0 {
		return math.MaxInt
	}
	return c.To
}

func (a pairAccount) count(op int, is func(impl.Call) bool) (n int) {
	for _, c := range a.calls {
		if c.Op == op && is(c) {
			n++
		}
	}
	return n
}

func (a pairAccount) once() bool {
	for i, b := range a.calls {
		for _, c := range a.calls[:i] {
			if b.Op == c.Op && b.Arg == c.Arg && bringsValue(b) {
				return false
			}
		}
	}
	return true
}

// givers goes by what would say that x is no giver of c.
func (a pairAccount) givers(c impl.Call) (list []impl.Call) {
	for _, x := range a.calls {
		wrongKind := c.Op == impl.OpTake && x.Op != impl.OpPut || c.Op == impl.OpSwap && x.Op != impl.OpSwap
		tooFar := x.From >= endOf(c) || c.From >= endOf(x)
		hasFailed := x.To > 0 && x.Code != impl.OK
		gotAnother := x.Op == impl.OpSwap && x.To > 0 && x.Result != c.Arg
		if x != c && !wrongKind && !tooFar && !hasFailed && !gotAnother && x.Arg == c.Result {
			list = append(list, x)
		}
	}
	return list
}

// ownResults: no two good calls of the kind were told one thing.
func (a pairAccount) ownResults(op int) bool {
	for i, b := range a.calls {
		for _, c := range a.calls[:i] {
			if b.Op == op && c.Op == op && isGood(b) && isGood(c) && b.Result == c.Result {
				return false
			}
		}
	}
	return true
}

func (a pairAccount) allGiven(op int) bool {
	for _, c := range a.calls {
		if c.Op == op && isGood(c) && len(a.givers(c)) != 1 {
			return false
		}
	}
	return a.ownResults(op)
}

func (a pairAccount) queue() bool {
	without := a.count(impl.OpPut, func(put impl.Call) bool {
		return isGood(put) && a.count(impl.OpTake, func(c impl.Call) bool { return isGood(c) && c.Result == put.Arg }) == 0
	})
	return a.allGiven(impl.OpTake) && without <= a.count(impl.OpTake, isUnderWay)
}

func (a pairAccount) stack() bool {
	for _, pop := range a.calls {
		if pop.Op != impl.OpPop || !isGood(pop) {
			continue
		}
		pushed := a.count(impl.OpPush, func(c impl.Call) bool {
			return c.Arg == pop.Result && c.From < pop.To && (isGood(c) || isUnderWay(c))
		})
		if pushed != 1 || slices.Contains(a.lies, pop.Result) {
			return false
		}
	}
	least := a.count(impl.OpPop, isGood) + len(a.lies)
	most := least + a.count(impl.OpPop, isUnderWay)
	pushes := a.count(impl.OpPush, isGood)
	return a.ownResults(impl.OpPop) && least <= pushes && pushes <= most
}

func (a pairAccount) counts() bool {
	any := func(impl.Call) bool { return true }
	all := a.count(impl.OpCount, any)
	if a.count(impl.OpCount, isGood) == all {
		for n := range all {
			if a.count(impl.OpCount, func(c impl.Call) bool { return c.Result == n }) != 1 {
				return false
			}
		}
	}
	tooHigh := a.count(impl.OpCount, func(c impl.Call) bool { return isGood(c) && c.Result >= all })
	return tooHigh == 0 && a.ownResults(impl.OpCount)
}

func (a pairAccount) verdict() verdict {
	say := func(is bool) said { return said{is, impl.OK} }
	v := verdict{no, noPair, noPair, noPair, say(a.counts())}
	if a.once() {
		v.once, v.queue, v.swaps, v.stack = yes, say(a.queue()), say(a.allGiven(impl.OpSwap)), say(a.stack())
	}
	return v
}

// wantAccount: all that is said of a machine is what its account says.
func wantAccount(t *testing.T, what string, m impl.Machine) verdict {
	t.Helper()
	a := accountOf(m)
	want := a.verdict()
	wantVerdict(t, what, m, want)
	for _, c := range m.Calls {
		if (c.Op == impl.OpTake || c.Op == impl.OpSwap) && isGood(c) {
			wantGivers(t, what, m.Calls, c, a.givers(c)...)
		} else {
			wantNoGivers(t, what, m.Calls, c, impl.ErrPair)
		}
	}
	return want
}

// spans are some that overlap and some that do not; the last one is under way.
var spans = [][2]int{{1, 4}, {4, 6}, {3, 5}, {2, 0}}

// smallCalls are calls of a kind, with few values and results in all that may become of them.
func smallCalls(op int) (list []impl.Call) {
	args := []int{0}
	if bringsValue(impl.Call{Op: op}) {
		args = []int{0, 1, 2}
	}
	for _, arg := range args {
		for _, s := range spans {
			c := impl.Call{Op: op, Arg: arg, From: s[0], To: s[1]}
			switch {
			case s[1] == 0:
				list = append(list, c)
			case op == impl.OpPut || op == impl.OpPush:
				list = append(list, withResult(c, arg), failedCall(c, impl.ErrTimeout))
			default:
				list = append(list, withResult(c, 0), withResult(c, 1), withResult(c, 2), failedWith(c, impl.ErrTimeout, 1))
			}
		}
	}
	return list
}

// Every one and every two of these calls, with all stacks, and every three that
// differ, with one stack in turn.
func TestPairsOfEveryFewCalls(t *testing.T) {
	puts, takes := smallCalls(impl.OpPut), smallCalls(impl.OpTake)
	pushes, pops := smallCalls(impl.OpPush), smallCalls(impl.OpPop)
	stacks := [][]int{nil, {0}, {1}, {2, 1}}
	seen := map[verdict]int{}
	for kinds, all := range map[string][]impl.Call{
		"puts and takes": slices.Concat(puts, takes), "swaps": smallCalls(impl.OpSwap),
		"pushes and pops": slices.Concat(pushes, pops), "counts": smallCalls(impl.OpCount),
	} {
		turn := 0
		ask := func(calls ...impl.Call) {
			for k := range calls {
				calls[k].Thread = k
			}
			m := historyOf(calls...)
			lies := stacks[:1]
			if kinds == "pushes and pops" {
				lies = stacks
				if len(calls) == 3 {
					lies = stacks[turn%4:][:1]
					turn++
				}
			}
			for _, l := range lies {
				m.Arena.Cells = lying(l...)
				seen[wantAccount(t, kinds, m)]++
			}
		}
		for i, a := range all {
			ask(a)
			for j, b := range all {
				ask(a, b)
				for _, c := range all[:min(i, j)] {
					ask(c, a, b)
				}
			}
			if t.Failed() {
				t.FailNow()
			}
		}
	}
	for _, v := range []verdict{allTrue, {yes, no, yes, yes, yes}, {yes, yes, no, yes, yes}, {yes, yes, yes, no, yes}, {yes, yes, yes, yes, no}, {no, noPair, noPair, noPair, yes}} {
		if seen[v] < 300 {
			t.Error("calls that say too little:", seen)
		}
	}
}

// onceOfKinds is ofKinds with values that are there once among the calls of a kind.
func onceOfKinds(random *rand.Rand, r *machineRun, kinds ...int) impl.Event {
	e := ofKinds(random, r, kinds...)
	if e.Kind == impl.EvCall && callKinds[e.Op-1].brings {
		e.Arg = accountOf(r.m).count(e.Op, func(impl.Call) bool { return true })
	}
	return e
}

// settled is the machine when its threads have run in turn till none does.
func settled(t *testing.T, m impl.Machine) impl.Machine {
	t.Helper()
	runs := func(x impl.Thread) bool { return x.Status == impl.ThRuns }
	for n := 0; slices.ContainsFunc(m.Threads, runs); n++ {
		if k := n % 4; runs(m.Threads[k]) {
			code := 0
			m, code = impl.EventDo(m, stepEvent(k))
			wantCode(t, "a step", code, impl.OK)
		}
		if n > 4000 {
			t.Fatal("they run on and on:", m.Threads)
		}
	}
	return m
}

// wantSettled is promise 12 of a machine of which no thread runs: no call under
// way has been given anything, nor has given anything.
func wantSettled(t *testing.T, what string, m impl.Machine) {
	t.Helper()
	var put, taken, swapped, pushed, popped, counted []int
	for _, c := range m.Calls {
		switch {
		case !isGood(c):
		case c.Op == impl.OpPut:
			put = append(put, c.Arg)
		case c.Op == impl.OpTake:
			taken = append(taken, c.Result)
		case c.Op == impl.OpSwap:
			swapped = append(swapped, c.Result)
			with := m.Calls[slices.IndexFunc(m.Calls, func(x impl.Call) bool { return x.Op == impl.OpSwap && x.Arg == c.Result })]
			if !isGood(with) || with.Result != c.Arg || with == c || with.From >= c.To || c.From >= with.To {
				t.Errorf("%s: a swap %+v with %+v", what, c, with)
			}
		case c.Op == impl.OpPush:
			pushed = append(pushed, c.Arg)
		case c.Op == impl.OpPop:
			popped = append(popped, c.Result)
		case c.Op == impl.OpCount:
			counted = append(counted, c.Result)
		}
	}
	for _, list := range [][]int{put, taken, swapped, pushed, counted} {
		slices.Sort(list)
	}
	popped = append(popped, accountOf(m).lies...)
	slices.Sort(popped)
	if !slices.Equal(put, taken) || !slices.Equal(pushed, popped) || len(slices.Compact(slices.Clone(swapped))) != len(swapped) {
		t.Errorf("%s: put %v, taken %v, swapped %v, pushed %v, popped and lying there %v", what, put, taken, swapped, pushed, popped)
	}
	for i, n := range counted {
		if i != n {
			t.Errorf("%s: counted %v", what, counted)
			break
		}
	}
}

// wantNothingFromWhoFailed: what a put, a swap or a push that failed brought, nobody was told.
func wantNothingFromWhoFailed(t *testing.T, what string, m impl.Machine) (failed int) {
	t.Helper()
	gets := map[int]int{impl.OpPut: impl.OpTake, impl.OpSwap: impl.OpSwap, impl.OpPush: impl.OpPop}
	for _, c := range m.Calls {
		if c.Code == impl.OK || !bringsValue(c) {
			continue
		}
		failed++
		for _, x := range m.Calls {
			if x.Op == gets[c.Op] && isGood(x) && x.Result == c.Arg {
				t.Errorf("%s: %+v failed, and gave %+v", what, c, x)
			}
		}
	}
	return failed
}

// Promise 12 and the theorem of the whole, all along: whatever events come, with
// values that are there once, all that is told is true.
func TestPairsOfEvents(t *testing.T) {
	mixes := [][]int{{1, 2, 3, 4, 5, 6}, {1, 2}, {3}, {4, 5}, {6}, {1, 2, 3}, {3, 4, 5, 6}, {1, 2, 2, 2, 3, 3, 3}}
	good, failed := map[int]int{}, 0
	for seed := range int64(80) {
		random := rand.New(rand.NewSource(seed + 5000))
		r := newMachineRun(t)
		what := fmt.Sprint("seed ", seed)
		for n := range 500 {
			code := 0
			r.m, code = impl.EventDo(r.m, onceOfKinds(random, r, mixes[seed%8]...))
			if v := verdictOf(r.m); v != allTrue || code == impl.ErrBad {
				t.Fatalf("%s, events %d: %+v of %+v", what, n, v, r.m)
			}
		}
		if v := wantAccount(t, what, r.m); v != allTrue {
			t.Errorf("%s: the account says %+v", what, v)
		}
		r.m = settled(t, r.m)
		if v := wantAccount(t, what+", settled", r.m); v != allTrue {
			t.Errorf("%s, settled: the account says %+v", what, v)
		}
		wantSettled(t, what, r.m)
		failed += wantNothingFromWhoFailed(t, what, r.m)
		for _, c := range r.m.Calls {
			if isGood(c) {
				good[c.Op]++
			}
		}
		if t.Failed() {
			t.FailNow()
		}
	}
	for _, k := range callKinds {
		if good[k.op] < 100 || failed < 100 {
			t.Error("runs that say too little: good calls", good, "that failed", failed)
		}
	}
}

// everyHistory leads a machine on in all orders of its threads' calls and steps,
// and of one cancel. Two ways to one machine are one if its calls are the same, too.
func everyHistory(t *testing.T, todo [][]impl.Event, cancels bool, look func(m impl.Machine, quiet bool)) int {
	type state struct {
		m       impl.Machine
		todo    [4]int
		cancels bool
	}
	seen := map[string]bool{}
	open := []state{{m: impl.NewMachine(), cancels: cancels}}
	for len(open) > 0 && !t.Failed() {
		last := open[len(open)-1]
		open = open[:len(open)-1]
		key := fmt.Sprint(last)
		if seen[key] {
			continue
		}
		seen[key] = true
		quiet := true
		for k, x := range last.m.Threads {
			next := last
			var code int
			switch {
			case x.Status == impl.ThRuns:
				quiet = false
				next.m, code = impl.EventDo(last.m, stepEvent(k))
			case x.Status == impl.ThIdle && last.todo[k] < len(todo[k]):
				quiet = false
				next.todo[k]++
				next.m, code = impl.EventDo(last.m, todo[k][last.todo[k]])
			default:
				continue
			}
			wantCode(t, "every history", code, impl.OK)
			open = append(open, next)
			if last.cancels && canBeCancelled(x) {
				next = last
				next.cancels = false
				next.m, _ = impl.EventDo(last.m, cancelEvent(k))
				open = append(open, next)
			}
		}
		look(last.m, quiet)
	}
	return len(seen)
}

func canBeCancelled(x impl.Thread) bool { return x.Status != impl.ThIdle && x.Op <= impl.OpSwap }

// Promise 12 in every order of the steps of few calls, and at every moment.
func TestPairsInEveryOrder(t *testing.T) {
	put := func(k, v int) impl.Event { return callEvent(k, impl.OpPut, v, 0) }
	take := func(k int) impl.Event { return callEvent(k, impl.OpTake, 0, 0) }
	swap := func(k, v int) impl.Event { return callEvent(k, impl.OpSwap, v, 0) }
	push := func(k, v int) impl.Event { return callEvent(k, impl.OpPush, v, 0) }
	pop := func(k int) impl.Event { return callEvent(k, impl.OpPop, 0, 0) }
	count := func(k int) impl.Event { return callEvent(k, impl.OpCount, 0, 0) }
	for what, c := range map[string]struct {
		todo    [][]impl.Event
		cancels bool
		least   int
	}{
		"a put and a take":               {[][]impl.Event{{put(0, 0)}, {take(1)}, {}, {}}, true, 500},
		"two swaps":                      {[][]impl.Event{{swap(0, 5)}, {swap(1, 0)}, {}, {}}, true, 300},
		"a push and two pops":            {[][]impl.Event{{push(0, 0)}, {pop(1)}, {pop(2)}, {}}, false, 1000},
		"two pushes and a pop":           {[][]impl.Event{{push(0, 0)}, {push(1, 1)}, {pop(2)}, {}}, false, 1000},
		"two counts and two more":        {[][]impl.Event{{count(0), count(0)}, {count(1), count(1)}, {}, {}}, false, 300},
		"three counts":                   {[][]impl.Event{{count(0)}, {count(1)}, {count(2)}, {}}, false, 300},
		"a put, a take, a push, a count": {[][]impl.Event{{put(0, 5), count(0)}, {push(1, 5), take(1)}, {}, {}}, false, 1000},
	} {
		machines := everyHistory(t, c.todo, c.cancels, func(m impl.Machine, quiet bool) {
			if v := verdictOf(m); v != allTrue {
				t.Errorf("%s: %+v of %+v", what, v, m)
			}
			if quiet {
				wantSettled(t, what, m)
				wantNothingFromWhoFailed(t, what, m)
			}
		})
		if machines < c.least {
			t.Errorf("%s: machines %d", what, machines)
		}
	}
}

// bent has one of a machine's calls changed, so that events may not lead to it.
func bent(random *rand.Rand, m impl.Machine) impl.Machine {
	m = cloned(m)
	at, from := random.Intn(len(m.Calls)), random.Intn(len(m.Calls))
	c, other := &m.Calls[at], m.Calls[from]
	switch random.Intn(9) {
	case 0:
		c.Result = other.Arg
	case 1:
		c.Result = other.Result
	case 2:
		c.Code = random.Intn(2) * impl.ErrTimeout
	case 3:
		c.From = random.Intn(m.Steps)
	case 4:
		c.To = 1 + random.Intn(m.Steps)
	case 5:
		c.Arg = other.Arg
	case 6:
		*c, m.Calls[from] = other, *c
		c.Result = random.Intn(len(m.Calls))
	case 7:
		m.Calls = slices.Delete(m.Calls, at, at+1)
	case 8:
		m.Calls = append(m.Calls, *c)
	}
	return m
}

// Machines that events led to, whose calls were bent then.
func TestPairsOfBentMachines(t *testing.T) {
	seen, bad := map[verdict]int{}, 0
	for seed := range int64(60) {
		random := rand.New(rand.NewSource(seed + 6000))
		r := newMachineRun(t)
		for range 150 + seed*2 {
			r.m, _ = impl.EventDo(r.m, onceOfKinds(random, r, [][]int{{1, 2, 3, 4, 5, 6}, {1, 2, 3}, {3, 4, 5, 6}}[seed%3]...))
		}
		for range 60 {
			m := bent(random, r.m)
			if random.Intn(4) == 0 && len(m.Calls) > 0 {
				m = bent(random, m)
			}
			if !impl.MachineOK(m) {
				wantNothingTold(t, "bent too far", m)
				bad++
				continue
			}
			seen[wantAccount(t, fmt.Sprint("seed ", seed), m)]++
		}
		if t.Failed() {
			t.FailNow()
		}
	}
	for _, v := range []verdict{allTrue, {yes, no, yes, yes, yes}, {yes, yes, no, yes, yes}, {yes, yes, yes, no, yes}, {yes, yes, yes, yes, no}, {no, noPair, noPair, noPair, yes}} {
		if seen[v] < 50 || bad < 50 {
			t.Error("machines that say too little:", seen, bad)
		}
	}
}

// pairMachines are right: with values once and twice, with what is true and what is not.
func pairMachines() map[string]impl.Machine {
	all := histories()
	all["met"] = historyOf(putOver(5, 0, 4), takeOver(5, 1, 3), swapOver(5, 8, 0, 6), swapOver(8, 5, 2, 9), pushOver(5, 0, 4), countOver(0, 0, 3))
	all["lying there"] = withCells(historyOf(pushOver(5, 0, 4), popOver(5, 4, 8), pushOver(6, 0, 4)), lying(6))
	all["not true"] = historyOf(takeOver(5, 1, 3), swapOver(5, 5, 0, 6), popOver(5, 4, 8), countOver(5, 0, 3))
	all["twice"] = historyOf(putOver(5, 0, 4), putOver(5, 0, 4), takeOver(5, 1, 3))
	return all
}

// Promise 1: no argument changes, and no answer shares memory with it or with another answer.
func TestPairCallsChangeNothing(t *testing.T) {
	thread, call := impl.Thread{Id: guard}, impl.Call{Thread: guard}
	machines := pairMachines()
	machines["not right"] = historyOf(spanned(7, 9), spanned(3, 21))
	for name, m := range machines {
		given := m
		given.Arena.Cells = roomy(m.Arena.Cells, guard)
		given.Threads, given.Calls = roomy(m.Threads, thread), roomy(m.Calls, call)
		verdictOf(given)
		wantMachine(t, name+", the argument", given, m)
		for _, c := range append(slices.Clone(m.Calls), takeOver(5, 1, 3), swapOver(1, 5, 0, 9), impl.Call{}) {
			got, code := impl.GiversOf(given.Calls, c)
			kept := slices.Clone(got)
			other, code2 := impl.GiversOf(given.Calls, c)
			spoil(other, impl.Call{Thread: -guard})
			wantCalls(t, name+", an answer behind another one", got, code, kept, code2)
			spoil(got, impl.Call{Thread: -guard})
			wantMachine(t, name+", the argument of GiversOf", given, m)
		}
		wantRoomLeft(t, name, given.Arena.Cells, guard)
		wantRoomLeft(t, name, given.Threads, thread)
		wantRoomLeft(t, name, given.Calls, call)
	}
	// All of the list gives, so the answer is as long as the list.
	list := roomy([]impl.Call{putOver(5, 0, 4), putOver(5, 1, 4), putOver(5, 2, 4)}, call)
	was := slices.Clone(list)
	got, code := impl.GiversOf(list, takeOver(5, 1, 3))
	wantCalls(t, "all of them", got, code, was, impl.OK)
	spoil(got, impl.Call{Thread: -guard})
	wantCalls(t, "the list", list, impl.OK, was, impl.OK)
	wantRoomLeft(t, "the list", list, call)
}

// sayPairs asks all that is told of pairs, and tells all answers. An empty list and nil are the same value.
func sayPairs(m impl.Machine, c impl.Call) string {
	list, code := impl.GiversOf(m.Calls, c)
	return fmt.Sprintln(verdictOf(m), list, code)
}

// Promise 1: alike arguments have alike answers, whatever was asked ahead.
func TestPairCallsDoNotHangOnEarlierOnes(t *testing.T) {
	var machines []impl.Machine
	for _, list := range []map[string]impl.Machine{pairMachines(), badMachines()} {
		for _, m := range list {
			machines = append(machines, m)
		}
	}
	calls := []impl.Call{takeOver(5, 1, 3), swapOver(1, 5, 0, 9), swapOver(8, 5, 2, 9), putOver(5, 0, 4)}
	for _, c := range badCalls() {
		calls = append(calls, c)
	}
	first := map[[2]int]string{}
	for turn := range 2 {
		for i, m := range machines {
			for j, c := range calls {
				said := sayPairs(cloned(m), c)
				if turn == 0 {
					first[[2]int{i, j}] = said
				}
				if said != first[[2]int{i, j}] {
					t.Errorf("alike arguments, other answers: %+v %+v", m, c)
				}
			}
		}
	}
	empty, none := historyOf(), historyOf()
	empty.Calls, none.Calls = []impl.Call{}, nil
	for _, c := range calls {
		if sayPairs(empty, c) != sayPairs(none, c) {
			t.Error("nil is told from an empty list:", c)
		}
	}
}
