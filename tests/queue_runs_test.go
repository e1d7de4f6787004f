package tests

import (
	"fmt"
	"math/rand"
	"slices"
	"testing"

	"loop.example/g00624/impl"
)

// queueRun is a queue with four threads whose steps come in any order.
type queueRun struct {
	t       *testing.T
	arena   impl.Arena
	threads [4]impl.Thread
	now     int
	// waiting are the nodes that wait, in the order in which they were linked.
	waiting []int
	// passed says that the head went beyond a node that still waits.
	passed      bool
	puts, takes []int
	timesServed int
}

func newQueueRun(t *testing.T) *queueRun {
	a, code := impl.InitQueue(impl.NewArena())
	wantCode(t, "InitQueue", code, impl.OK)
	r := &queueRun{t: t, arena: a}
	for i := range r.threads {
		r.threads[i].Id = i
	}
	return r
}

func (r *queueRun) begin(k, op, arg, until int) {
	r.t.Helper()
	x, code := impl.BeginCall(r.threads[k], op, arg, until)
	wantCode(r.t, "BeginCall", code, impl.OK)
	r.threads[k] = x
}

func (r *queueRun) step(k int) {
	r.t.Helper()
	x := r.threads[k]
	b, y, wakes, code := impl.StepQueue(r.arena, x, r.now)
	wantCode(r.t, "StepQueue", code, impl.OK)
	wantOneCell(r.t, r.arena.Cells, b.Cells)
	if !impl.ArenaOK(b) || !impl.ThreadOK(y) {
		r.t.Fatalf("not right any more: %v %+v", b, y)
	}
	r.note(x, y, b)
	r.arena, r.threads[k] = b, y
	if wakes >= 0 {
		r.threads[wakes], _ = impl.UnparkThread(r.threads[wakes])
	}
	if !r.passed {
		wantWaiters(r.t, "who waits", b.Cells, r.owners()...)
	}
}

// note keeps its own account of who waits, by what a step did.
func (r *queueRun) note(x, y impl.Thread, b impl.Arena) {
	r.t.Helper()
	n, s := x.Regs[2], x.Regs[3]
	switch {
	case x.Pc == 5 && y.Pc == 8:
		r.waiting = append(r.waiting, s)
	case x.Pc == 10 && y.Status == impl.ThIdle:
		r.leave(s)
	case x.Pc == 12 && slices.Contains(r.waiting, n) && b.Cells[1] != r.arena.Cells[1]:
		r.passed = true
	case x.Pc == 13 && y.Pc == 14:
		if !r.passed && r.waiting[0] != n {
			r.t.Errorf("%d was served ahead of %v", n, r.waiting)
		}
		r.leave(n)
		r.timesServed++
	}
	if y.Status == impl.ThIdle && y.Code == impl.OK {
		if x.Op == impl.OpPut {
			r.puts = append(r.puts, y.Result)
		} else {
			r.takes = append(r.takes, y.Result)
		}
	}
}

func (r *queueRun) leave(ref int) {
	r.waiting = slices.DeleteFunc(r.waiting, func(other int) bool { return other == ref })
}

func (r *queueRun) owners() []int {
	var out []int
	for _, ref := range r.waiting {
		out = append(out, r.arena.Cells[ref/2+2]-1)
	}
	return out
}

// wantOneKind: those that wait all bring a value, or none does.
func (r *queueRun) wantOneKind() {
	r.t.Helper()
	for _, ref := range r.waiting {
		if ref%2 != r.waiting[0]%2 {
			r.t.Errorf("of two kinds: %v", r.waiting)
		}
	}
	if len(r.waiting) > 0 {
		wantHolds(r.t, "the kind of who waits", r.arena.Cells, r.waiting[0]%2 == 1, impl.OK)
	} else {
		wantHolds(r.t, "nobody waits", r.arena.Cells, false, impl.ErrNone)
	}
}

func (r *queueRun) settle(k int) {
	r.t.Helper()
	for range 1000 {
		if r.threads[k].Status != impl.ThRuns {
			return
		}
		r.step(k)
	}
	r.t.Fatal("it runs on and on:", r.threads[k])
}

// drain lets every thread that runs take its steps in turn till none runs.
func (r *queueRun) drain() {
	r.t.Helper()
	for range 1000 {
		quiet := true
		for k := range r.threads {
			if r.threads[k].Status == impl.ThRuns {
				r.step(k)
				quiet = false
			}
		}
		if quiet {
			return
		}
	}
	r.t.Fatal("they run on and on:", r.threads)
}

// wantOneCell is the first part of promise 5; nodes of queues and swaps have three cells.
func wantOneCell(t *testing.T, was, is []int) {
	t.Helper()
	wantOneCellOrNode(t, was, is, 3)
}

// wantOneCellOrNode: one cell is another one at most, or there is a new node of so many cells.
func wantOneCellOrNode(t *testing.T, was, is []int, node int) {
	t.Helper()
	changed := 0
	for i := range min(len(was), len(is)) {
		if was[i] != is[i] {
			changed++
		}
	}
	if changed > 1 || len(is) != len(was) && (changed > 0 || len(is) != len(was)+node) {
		t.Errorf("more than one cell: from %v to %v", was, is)
	}
}

// queueThreads are puts and takes at every Pc, with registers of all sorts.
func queueThreads() []impl.Thread {
	numbers := []int{-impl.MaxWord, -13, -12, -3, -2, -1, 0, 1, 2, 3, 5, 6, 7, 8, 12, 13, 14, 19, 799, 800, impl.MaxWord}
	random := rand.New(rand.NewSource(5))
	var all []impl.Thread
	for i := range 17 * 60 {
		x := running(i%4, impl.OpPut, random.Intn(1000), i%17, [5]int{})
		if random.Intn(2) == 0 {
			x.Op, x.Arg = impl.OpTake, 0
		}
		for k := range x.Regs {
			x.Regs[k] = numbers[random.Intn(len(numbers))]
		}
		x.Until = random.Intn(3) * 4
		x.Permit, x.Cancel = random.Intn(2) == 0, random.Intn(4) == 0
		all = append(all, x)
	}
	return all
}

// queueArenas are right, and have room for a queue; some are queues.
func queueArenas() []impl.Arena {
	random := rand.New(rand.NewSource(6))
	wild := make([]int, 30)
	for i := range wild[1:] {
		wild[i+1] = random.Intn(60) - 20
	}
	far := []int{0, impl.MaxWord, -impl.MaxWord, impl.MaxWord, -impl.MaxWord, impl.MaxWord}
	lists := [][]int{emptyQueue(), putWaits(), takeWaits(), make([]int, 6), wild, far,
		{0, 6, 13, -1, 13, 0, 6, 13, 3}, {0, -3, -2, -1, 1, 0, 0},
		fullQueue(putWaits(), 0), fullQueue(putWaits(), 2), fullQueue(takeWaits(), 3)}
	var all []impl.Arena
	for _, cells := range lists {
		all = append(all, arenaOf(cells...))
	}
	return all
}

// sayQueue calls all that is about the queue with what it is given, and tells all answers.
func sayQueue(a impl.Arena, x impl.Thread, now int) string {
	b, y, wakes, code := impl.StepQueue(a, x, now)
	s := fmt.Sprintln(b, y, wakes, code)
	list, code := impl.QueueWaiters(a)
	s += fmt.Sprintln(list, code)
	n, code := impl.QueueLength(a)
	s += fmt.Sprintln(n, code)
	holds, code := impl.QueueHolds(a)
	s += fmt.Sprintln(holds, code)
	first, code := impl.InitQueue(a)
	s += fmt.Sprintln(first, code)
	ref, code := impl.NodeRef(now, holds)
	at, data, code2 := impl.NodeAt(now)
	return s + fmt.Sprintln(ref, code, at, data, code2, impl.ItemWaits(holds, now))
}

// Whatever a step is given: one cell at most, a right arena, the thread's own Id, and no wait but at 9.
func TestQueueStepChangesOneCell(t *testing.T) {
	for _, a := range queueArenas() {
		for _, x := range queueThreads() {
			b, y, wakes, code := impl.StepQueue(a, x, 4)
			wantCode(t, "StepQueue", code, impl.OK)
			wantOneCell(t, a.Cells, b.Cells)
			if len(b.Cells) != len(a.Cells) && x.Pc != 4 {
				t.Errorf("new cells at %d", x.Pc)
			}
			if !impl.ArenaOK(b) {
				t.Errorf("not right any more: %v", b)
			}
			if y.Id != x.Id || y.Status == impl.ThParked && (x.Pc != 9 || y.Pc != 9) || wakes != -1 && x.Pc < 15 {
				t.Errorf("from %+v to %+v, wakes %d", x, y, wakes)
			}
		}
	}
}

func TestQueueCallsDoNotHangOnEarlierOnes(t *testing.T) {
	arenas := append(queueArenas(), arenaOf(0), arenaOf(0, 6, 6, -1, 0))
	for _, a := range badArenas() {
		arenas = append(arenas, a)
	}
	threads := append(queueThreads()[:340], idleThreads()[0], parkedThreads()[0], running(1, impl.OpPush, 3, 0, [5]int{}), impl.Thread{Id: 9})
	first := map[[2]int]string{}
	for turn := range 2 {
		for i, a := range arenas {
			for j, x := range threads {
				now := []int{4, -1, 0, 1000000, 1000001}[(i+j)%5]
				said := sayQueue(a, x, now)
				if turn == 0 {
					first[[2]int{i, j}] = said
				}
				if said != first[[2]int{i, j}] {
					t.Errorf("alike arguments, other answers: %v %+v: %s and %s", a, x, said, first[[2]int{i, j}])
				}
			}
		}
	}
}

// No step writes into the cells it is given, nor behind them, nor hands them out again.
func TestQueueKeepsItsArguments(t *testing.T) {
	for _, x := range queueThreads() {
		cells := guarded(putWaits()...)
		b, _, _, code := impl.StepQueue(impl.Arena{Cells: cells}, x, 4)
		wantCode(t, "StepQueue", code, impl.OK)
		for i := range b.Cells[:cap(b.Cells)] {
			b.Cells[:cap(b.Cells)][i] = -1
		}
		wantUntouched(t, fmt.Sprint("StepQueue at ", x.Pc), cells, putWaits()...)
	}
	cells := guarded(0)
	b, code := impl.InitQueue(impl.Arena{Cells: cells})
	wantCode(t, "InitQueue", code, impl.OK)
	b.Cells[0] = -1
	wantUntouched(t, "InitQueue", cells, 0)
	cells = guarded(putWaits()...)
	list, code := impl.QueueWaiters(impl.Arena{Cells: cells})
	wantCode(t, "QueueWaiters", code, impl.OK)
	list[0] = -1
	wantUntouched(t, "QueueWaiters", cells, putWaits()...)
}

// Who came to wait first is served first, of either kind, whoever comes for it.
func TestQueueServesInOrder(t *testing.T) {
	for _, kind := range []int{impl.OpPut, impl.OpTake} {
		r := newQueueRun(t)
		for k, arg := range []int{11, 22, 33} {
			if kind == impl.OpPut {
				r.begin(k, kind, arg, 0)
			} else {
				r.begin(k, kind, 0, 0)
			}
			r.settle(k)
			r.wantOneKind()
		}
		wantWaiters(t, "three wait", r.arena.Cells, 0, 1, 2)
		for k, arg := range []int{11, 22, 33} {
			if kind == impl.OpPut {
				r.begin(3, impl.OpTake, 0, 0)
			} else {
				r.begin(3, impl.OpPut, arg, 0)
			}
			r.settle(3)
			r.settle(k)
			r.wantOneKind()
			wantThread(t, "who came for it", r.threads[3], ended(3, 0, arg))
			wantThread(t, "who was served", r.threads[k], ended(k, 0, arg))
		}
		wantWaiters(t, "nobody waits", r.arena.Cells)
	}
}

// Who gave up is passed over, and gave nobody anything.
func TestQueuePassesOverWhoGaveUp(t *testing.T) {
	r := newQueueRun(t)
	for k, time := range []int{9, 0, 20} {
		r.begin(k, impl.OpPut, k+1, time)
		r.settle(k)
	}
	r.now = 9
	r.threads[0], _ = impl.ExpireThread(r.threads[0], r.now)
	r.settle(0)
	wantThread(t, "its time was over", r.threads[0], ended(0, impl.ErrTimeout, 0))
	r.threads[1], _ = impl.CancelThread(r.threads[1])
	r.settle(1)
	wantThread(t, "it was cancelled", r.threads[1], ended(1, impl.ErrCancelled, 0))
	wantWaiters(t, "the third one waits", r.arena.Cells, 2)
	r.begin(3, impl.OpTake, 0, 0)
	r.drain()
	wantThread(t, "the take", r.threads[3], ended(3, 0, 3))
	wantThread(t, "the third put", r.threads[2], ended(2, 0, 3))
}

// A call that is served just as it gives up has been served: either the one or the other.
func TestQueueGivesUpOrIsServed(t *testing.T) {
	for ahead := range 12 {
		r := newQueueRun(t)
		r.begin(0, impl.OpPut, 5, 0)
		r.settle(0)
		r.begin(1, impl.OpTake, 0, 0)
		for range ahead {
			if r.threads[1].Status == impl.ThRuns {
				r.step(1)
			}
		}
		if r.threads[0].Status != impl.ThIdle {
			r.threads[0], _ = impl.CancelThread(r.threads[0])
		}
		r.settle(0)
		r.drain()
		// The fifth step of the take is the one that changes the item.
		if ahead < 5 {
			wantThread(t, "given up", r.threads[0], ended(0, impl.ErrCancelled, 0))
			wantWaiters(t, "the take waits", r.arena.Cells, 1)
		} else {
			wantThread(t, "served", r.threads[0], ended(0, 0, 5))
			wantThread(t, "served", r.threads[1], ended(1, 0, 5))
		}
	}
}

// An unpark ahead of the park is not lost.
func TestQueueWakesWhoIsNotParkedYet(t *testing.T) {
	r := newQueueRun(t)
	r.begin(0, impl.OpTake, 0, 0)
	for r.threads[0].Pc != 9 {
		r.step(0)
	}
	r.begin(1, impl.OpPut, 4, 0)
	r.settle(1)
	if !r.threads[0].Permit || r.threads[0].Status != impl.ThRuns {
		t.Errorf("no permit: %+v", r.threads[0])
	}
	r.settle(0)
	wantThread(t, "the take", r.threads[0], ended(0, 0, 4))
}

// randomRun lets calls, steps, ticks, cancels and wakes come as a seed says.
func randomRun(t *testing.T, seed int64, events int) *queueRun {
	random := rand.New(rand.NewSource(seed))
	r := newQueueRun(t)
	next := 0
	for range events {
		k := random.Intn(4)
		switch x := r.threads[k]; {
		case random.Intn(20) == 0:
			r.now++
			for i := range r.threads {
				r.threads[i], _ = impl.ExpireThread(r.threads[i], r.now)
			}
		case x.Status == impl.ThRuns:
			r.step(k)
		case x.Status == impl.ThParked && random.Intn(12) == 0:
			r.threads[k], _ = impl.CancelThread(x)
		case x.Status == impl.ThParked && random.Intn(12) == 0:
			r.threads[k], _ = impl.WakeThread(x)
		case x.Status == impl.ThIdle && random.Intn(2) == 0:
			r.begin(k, impl.OpTake, 0, random.Intn(2)*(r.now+random.Intn(9)))
		case x.Status == impl.ThIdle:
			r.begin(k, impl.OpPut, next%1000, random.Intn(2)*(r.now+random.Intn(9)))
			next++
		}
		if !r.passed {
			r.wantOneKind()
		}
	}
	return r
}

// Steps in any order. A call that holds an old tail may by step 7 pass one of
// its own kind that still waits: the document says so, and in such a run the
// order is not asked for from there on.
func TestQueueInAnyOrder(t *testing.T) {
	served, passed := 0, 0
	for seed := range int64(300) {
		r := randomRun(t, seed, 700)
		r.drain()
		slices.Sort(r.puts)
		slices.Sort(r.takes)
		if !slices.Equal(r.puts, r.takes) {
			t.Errorf("seed %d: what was put well is %v, what was taken %v", seed, r.puts, r.takes)
		}
		if len(slices.Compact(slices.Clone(r.takes))) != len(r.takes) {
			t.Errorf("seed %d: taken twice: %v", seed, r.takes)
		}
		served += r.timesServed
		if r.passed {
			passed++
		}
	}
	if served < 3000 || passed > 30 {
		t.Error("runs that say too little: served", served, "passed", passed)
	}
}
