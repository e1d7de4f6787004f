package tests

import (
	"fmt"
	"math/rand"
	"slices"
	"testing"

	"loop.example/g00624/impl"
)

// stackCall is a push of a value, or a pop.
type stackCall struct{ op, arg int }

func pushOf(arg int) stackCall { return stackCall{impl.OpPush, arg} }

func popOf() stackCall { return stackCall{impl.OpPop, 0} }

// stackRun is a stack with threads that push and pop, whose steps come in any order.
type stackRun struct {
	t       *testing.T
	arena   impl.Arena
	threads []impl.Thread
	// todo are the calls that each thread has yet to begin.
	todo [][]stackCall
	// lies is what lies there by the run's own account, the top first; due is
	// what each thread's pop took off it.
	lies []int
	due  []int
	// What the calls came to: pushes, pops, and how many pops found nothing.
	pushed, popped []int
	empty          int
}

func newStackRun(t *testing.T, todo ...[]stackCall) *stackRun {
	r := &stackRun{t: t, arena: arenaOf(emptyStack()...), todo: slices.Clone(todo)}
	r.threads = make([]impl.Thread, len(todo))
	r.due = make([]int, len(todo))
	for k := range r.threads {
		r.threads[k].Id = k
	}
	return r
}

// fork is the same run once more, which shares no memory with it.
func (r *stackRun) fork() *stackRun {
	out := *r
	out.arena = arenaOf(slices.Clone(r.arena.Cells)...)
	out.threads = slices.Clone(r.threads)
	out.todo = slices.Clone(r.todo)
	out.lies, out.due = slices.Clone(r.lies), slices.Clone(r.due)
	out.pushed, out.popped = slices.Clone(r.pushed), slices.Clone(r.popped)
	return &out
}

// onTop lays what is there already below all that comes.
func (r *stackRun) onTop(list ...int) *stackRun {
	r.t.Helper()
	for _, v := range list {
		x, code := impl.BeginCall(impl.Thread{}, impl.OpPush, v, 0)
		wantCode(r.t, "BeginCall", code, impl.OK)
		for x.Status == impl.ThRuns {
			r.arena, x, _ = impl.StepStack(r.arena, x)
		}
		r.lies = slices.Insert(r.lies, 0, v)
	}
	wantItems(r.t, "what is there already", r.arena.Cells, r.lies...)
	return r
}

func (r *stackRun) isOver(k int) bool {
	return r.threads[k].Status == impl.ThIdle && len(r.todo[k]) == 0
}

// step is the thread's next step; one that is idle begins its next call first.
func (r *stackRun) step(k int) {
	r.t.Helper()
	x := r.threads[k]
	if x.Status == impl.ThIdle {
		call := r.todo[k][0]
		r.todo[k] = r.todo[k][1:]
		y, code := impl.BeginCall(x, call.op, call.arg, 0)
		wantCode(r.t, "BeginCall", code, impl.OK)
		x = y
	}
	b, y, code := impl.StepStack(r.arena, x)
	wantCode(r.t, "StepStack", code, impl.OK)
	wantOneCellOrNode(r.t, r.arena.Cells, b.Cells, 2)
	if !impl.ArenaOK(b) || !impl.ThreadOK(y) || y.Id != k {
		r.t.Fatalf("not right any more: %v %+v", b, y)
	}
	r.note(k, x, y)
	r.arena, r.threads[k] = b, y
	wantItems(r.t, "what lies there", b.Cells, r.lies...)
}

// note keeps its own account of the stack: a push counts once it is over, a pop
// once the top is moved.
func (r *stackRun) note(k int, x, y impl.Thread) {
	r.t.Helper()
	over := y.Status == impl.ThIdle
	switch {
	case x.Op == impl.OpPush && over:
		wantThread(r.t, "a push", y, ended(k, impl.OK, x.Arg))
		r.lies = slices.Insert(r.lies, 0, x.Arg)
		r.pushed = append(r.pushed, x.Arg)
	case x.Op == impl.OpPop && y.Pc == 3:
		if len(r.lies) == 0 {
			r.t.Fatalf("popped of nothing: %+v", y)
		}
		r.due[k] = r.lies[0]
		r.lies = r.lies[1:]
	case x.Op == impl.OpPop && over && x.Pc == 3:
		wantThread(r.t, "a pop", y, ended(k, impl.OK, r.due[k]))
		r.popped = append(r.popped, y.Result)
	case x.Op == impl.OpPop && over:
		wantThread(r.t, "a pop that failed", y, ended(k, impl.ErrEmpty, 0))
		if len(r.lies) != 0 {
			r.t.Errorf("empty, but there lies %v", r.lies)
		}
		r.empty++
	}
}

// settle lets one thread take all its steps.
func (r *stackRun) settle(k int) {
	r.t.Helper()
	for range 1000 {
		if r.isOver(k) {
			return
		}
		r.step(k)
	}
	r.t.Fatal("it runs on and on:", r.threads[k])
}

// everyStackRun leads the run on in all orders of steps; each way to the end is looked at once.
func everyStackRun(r *stackRun, look func(*stackRun)) int {
	seen := map[string]bool{}
	todo := []*stackRun{r}
	for len(todo) > 0 && !r.t.Failed() {
		last := todo[len(todo)-1]
		todo = todo[:len(todo)-1]
		key := fmt.Sprint(last.arena, last.threads, last.todo, last.lies, last.due, last.pushed, last.popped)
		if seen[key] {
			continue
		}
		seen[key] = true
		over := true
		for k := range last.threads {
			if !last.isOver(k) {
				over = false
				more := last.fork()
				more.step(k)
				todo = append(todo, more)
			}
		}
		if over {
			look(last)
		}
	}
	return len(seen)
}

// wantAllThere: what was there or was pushed was popped once, or lies there.
func (r *stackRun) wantAllThere(first ...int) {
	r.t.Helper()
	in := slices.Sorted(slices.Values(slices.Concat(first, r.pushed)))
	out := slices.Sorted(slices.Values(slices.Concat(r.popped, r.lies)))
	if !slices.Equal(in, out) {
		r.t.Errorf("there came %v, and there went or lie %v", in, out)
	}
}

// Promise 7: one after the other, what was pushed last is popped first.
func TestPushedIsPoppedFromTheTopOn(t *testing.T) {
	for n := range 8 {
		var pushes, pops []stackCall
		var want []int
		for i := range n {
			pushes = append(pushes, pushOf((i*333)%1000))
			pops = append(pops, popOf())
			want = slices.Insert(want, 0, (i*333)%1000)
		}
		r := newStackRun(t, pushes, append(pops, popOf()))
		r.settle(0)
		wantItems(t, "all were pushed", r.arena.Cells, want...)
		r.settle(1)
		if !slices.Equal(r.popped, want) || r.empty != 1 {
			t.Errorf("popped %v, then empty %d times, want %v", r.popped, r.empty, want)
		}
		wantItems(t, "all were popped", r.arena.Cells)
		wantThread(t, "the last pop", r.threads[1], ended(1, impl.ErrEmpty, 0))
	}
}

// The steps of calls that nobody disturbs, one by one.
func TestStackStepsOfOneThread(t *testing.T) {
	steps := func(r *stackRun, k int) (pcs []int) {
		for range 10 {
			r.step(k)
			pcs = append(pcs, r.threads[k].Pc)
			if r.threads[k].Status == impl.ThIdle {
				break
			}
		}
		return pcs
	}
	r := newStackRun(t, []stackCall{pushOf(5), popOf(), popOf()})
	for _, want := range [][]int{{1, 2, 3, 0}, {1, 2, 3, 0}, {0}} {
		if pcs := steps(r, 0); !slices.Equal(pcs, want) {
			t.Error("steps:", pcs, "want", want)
		}
	}
	wantCells(t, "what is left", r.arena, append(emptyStack(), 5, 0)...)
}

// Calls one after the other, as a seed says, against a list.
func TestStackAgainstList(t *testing.T) {
	for seed := range int64(60) {
		random := rand.New(rand.NewSource(seed))
		r := newStackRun(t, nil, nil, nil, nil)
		var list []int
		for range 150 {
			k := random.Intn(4)
			if random.Intn(2) == 0 {
				v := random.Intn(1000)
				r.todo[k] = []stackCall{pushOf(v)}
				r.settle(k)
				list = append(list, v)
				wantThread(t, "push", r.threads[k], ended(k, impl.OK, v))
				continue
			}
			r.todo[k] = []stackCall{popOf()}
			r.settle(k)
			if len(list) == 0 {
				wantThread(t, "pop of nothing", r.threads[k], ended(k, impl.ErrEmpty, 0))
				continue
			}
			wantThread(t, "pop", r.threads[k], ended(k, impl.OK, list[len(list)-1]))
			list = list[:len(list)-1]
		}
	}
}

// Two push, with their steps in any order: one lies on the other.
func TestTwoPush(t *testing.T) {
	for _, args := range [][]int{{5, 8}, {0, 999}, {7, 7}} {
		seen := map[string]bool{}
		everyStackRun(newStackRun(t, []stackCall{pushOf(args[0])}, []stackCall{pushOf(args[1])}), func(r *stackRun) {
			r.wantAllThere()
			seen[fmt.Sprint(r.lies)] = true
		})
		if args[0] != args[1] && len(seen) != 2 {
			t.Error("not both orders:", seen)
		}
	}
}

// Two pop of two, and of one: no value goes to both, and only one who finds none fails.
func TestTwoPop(t *testing.T) {
	for _, first := range [][]int{{6, 5}, {5}, {}} {
		seen := map[string]bool{}
		everyStackRun(newStackRun(t, []stackCall{popOf()}, []stackCall{popOf()}).onTop(first...), func(r *stackRun) {
			r.wantAllThere(first...)
			if len(r.popped) != len(first) || r.empty != 2-len(first) {
				t.Errorf("popped %v of %v", r.popped, first)
			}
			seen[fmt.Sprint(r.threads)] = true
		})
		if len(first) > 0 && len(seen) != 2 {
			t.Error("not both orders:", seen)
		}
	}
}

// One pushes while another one pops, of a stack with something and with nothing below.
func TestPushMeetsPop(t *testing.T) {
	for _, first := range [][]int{{6}, {}} {
		seen := map[string]bool{}
		everyStackRun(newStackRun(t, []stackCall{pushOf(8)}, []stackCall{popOf()}).onTop(first...), func(r *stackRun) {
			r.wantAllThere(first...)
			seen[fmt.Sprint(r.popped, r.empty)] = true
		})
		if len(seen) != 2 {
			t.Error("not both orders:", seen)
		}
	}
}

// Three threads, and two with calls one after the other, in all orders of their steps.
func TestThreePushAndPop(t *testing.T) {
	states, ends := 0, 0
	for _, calls := range [][][]stackCall{
		{{pushOf(5)}, {pushOf(8)}, {pushOf(9)}},
		{{pushOf(5)}, {pushOf(8)}, {popOf()}},
		{{pushOf(5)}, {popOf()}, {popOf()}},
		{{popOf()}, {popOf()}, {popOf()}},
		{{pushOf(5), popOf()}, {pushOf(8), popOf()}},
		{{popOf(), pushOf(5)}, {popOf(), pushOf(8)}},
		{{pushOf(5), popOf()}, {pushOf(8)}, {popOf()}},
	} {
		for _, first := range [][]int{{}, {1}, {2, 1}} {
			states += everyStackRun(newStackRun(t, calls...).onTop(first...), func(r *stackRun) {
				r.wantAllThere(first...)
				ends++
			})
		}
	}
	if states < 10000 || ends < 300 {
		t.Error("runs that say too little: states", states, "ends", ends)
	}
}

// A push whose top was moved lays its node on the new one.
func TestPushTriesAgain(t *testing.T) {
	r := newStackRun(t, []stackCall{pushOf(5)}, []stackCall{pushOf(6), pushOf(7), popOf()})
	for range 3 {
		r.step(0)
	}
	r.step(1)
	for r.threads[1].Status == impl.ThRuns {
		r.step(1)
	}
	r.step(0)
	if x := r.threads[0]; x.Pc != 1 || x.Status != impl.ThRuns {
		t.Errorf("the top was another one: %+v", x)
	}
	r.settle(0)
	wantItems(t, "both lie there", r.arena.Cells, 5, 6)
	r.settle(1)
	wantItems(t, "a third one came and went", r.arena.Cells, 5, 6)
	wantThread(t, "the pop", r.threads[1], ended(1, impl.OK, 7))
}

// Four threads push and pop as a seed says, with their steps in any order.
func TestStackInAnyOrder(t *testing.T) {
	popped, empty := 0, 0
	for seed := range int64(150) {
		random := rand.New(rand.NewSource(seed))
		r := newStackRun(t, nil, nil, nil, nil)
		next := 0
		for range 600 {
			k := random.Intn(4)
			if r.isOver(k) && random.Intn(2) == 0 {
				r.todo[k] = []stackCall{pushOf(next)}
				next++
			} else if r.isOver(k) {
				r.todo[k] = []stackCall{popOf()}
			}
			r.step(k)
		}
		for k := range r.threads {
			r.settle(k)
		}
		r.wantAllThere()
		if t.Failed() {
			t.Fatal("seed", seed)
		}
		popped += len(r.popped)
		empty += r.empty
	}
	if popped < 3000 || empty < 100 {
		t.Error("runs that say too little: popped", popped, "empty", empty)
	}
}

// A full arena: who pushes fails, and all else stays; who pops does not need room.
func TestStackInAFullArena(t *testing.T) {
	r := newStackRun(t, nil, nil).onTop(6, 5)
	r.arena.Cells = fullQueue(r.arena.Cells, 1)
	was := slices.Clone(r.arena.Cells)
	x, code := impl.BeginCall(r.threads[0], impl.OpPush, 9, 0)
	wantCode(t, "BeginCall", code, impl.OK)
	b, y, code := impl.StepStack(r.arena, x)
	wantCode(t, "StepStack", code, impl.OK)
	wantThread(t, "no room", y, ended(0, impl.ErrFull, 0))
	wantCells(t, "all else stays", b, was...)
	r.todo[1] = []stackCall{popOf(), popOf(), popOf()}
	r.settle(1)
	if !slices.Equal(r.popped, []int{5, 6}) || r.empty != 1 {
		t.Error("popped:", r.popped, r.empty)
	}
}

// Steps of the queue and of swaps on the same arena leave the stack as it is.
func TestStackBesideQueueAndSwaps(t *testing.T) {
	r := newStackRun(t, []stackCall{pushOf(4), popOf(), popOf()}).onTop(6, 5)
	others := []impl.Thread{running(1, impl.OpPut, 3, 0, [5]int{}), running(2, impl.OpSwap, 8, 0, [5]int{})}
	steps := []stepCall{impl.StepQueue, impl.StepSwap}
	for !r.isOver(0) {
		r.step(0)
		for i, x := range others {
			if x.Status == impl.ThRuns {
				b, y, _, code := steps[i](r.arena, x, 0)
				wantCode(t, "a step of another kind", code, impl.OK)
				r.arena, others[i] = b, y
			}
		}
		wantItems(t, "beside others", r.arena.Cells, r.lies...)
	}
	if !slices.Equal(r.popped, []int{4, 5}) {
		t.Error("popped:", r.popped)
	}
	wantWaiters(t, "the put waits", r.arena.Cells, 1)
	wantOffer(t, "the swap offers", r.arena.Cells, 2, 8, impl.OK)
}

// stackThreads are pushes and pops at every Pc, with registers of all sorts.
func stackThreads() []impl.Thread {
	numbers := []int{-impl.MaxWord, -8, -2, -1, 0, 0, 0, 1, 6, 7, 8, 8, 9, 10, 10, 11, 12, 399, 400, impl.MaxWord}
	random := rand.New(rand.NewSource(8))
	var all []impl.Thread
	for i := range 17 * 60 {
		x := running(i%4, impl.OpPush, random.Intn(1000), i%17, [5]int{})
		if random.Intn(2) == 0 {
			x.Op, x.Arg = impl.OpPop, 0
		}
		for k := range x.Regs {
			x.Regs[k] = numbers[random.Intn(len(numbers))]
		}
		x.Permit, x.Cancel = random.Intn(2) == 0, random.Intn(4) == 0
		all = append(all, x)
	}
	return all
}

// stackArenas are right, and have cells enough for a step; some have a stack.
func stackArenas() []impl.Arena {
	all := swapArenas()
	two := twoLie()
	for _, cells := range [][]int{emptyStack(), two, oneComes(), withCell(two, 7, impl.MaxWord), withCell(two, 7, -1),
		withCell(two, 11, 10), withCell(two, 9, 10), withCell(two, 10, -5),
		fullQueue(emptyStack(), 0), fullQueue(two, 1), fullQueue(two, 2)} {
		all = append(all, arenaOf(cells...))
	}
	return all
}

// Whatever a step is given: one cell at most, or new ones at 0 of a push alone; a right arena and a right thread.
func TestStackStepChangesOneCell(t *testing.T) {
	for _, a := range stackArenas() {
		for _, x := range stackThreads() {
			b, y, code := impl.StepStack(a, x)
			wantCode(t, "StepStack", code, impl.OK)
			wantOneCellOrNode(t, a.Cells, b.Cells, 2)
			if len(b.Cells) != len(a.Cells) && (x.Pc != 0 || x.Op != impl.OpPush) {
				t.Errorf("new cells at %d of %d", x.Pc, x.Op)
			}
			if !impl.ArenaOK(b) || !impl.ThreadOK(y) || y.Id != x.Id || y.Status == impl.ThParked {
				t.Errorf("from %+v to %+v, %v", x, y, b)
			}
		}
	}
}

// Whatever it is given, a call that nobody disturbs ends in a few steps.
func TestStackCallsEnd(t *testing.T) {
	for _, a := range stackArenas() {
		for _, x := range stackThreads() {
			b, steps := a, 0
			for x.Status == impl.ThRuns && steps <= 8 {
				b, x, _ = impl.StepStack(b, x)
				steps++
			}
			if steps > 8 {
				t.Errorf("it runs on and on: %v %+v", a, x)
			}
		}
	}
}

// sayStack calls all that is about the stack with what it is given, and tells all answers.
func sayStack(a impl.Arena, x impl.Thread) string {
	b, y, code := impl.StepStack(a, x)
	s := fmt.Sprintln(b, y, code)
	list, code := impl.StackItems(a)
	s += fmt.Sprintln(list, code)
	n, code := impl.StackDepth(a)
	s += fmt.Sprintln(n, code)
	b, code = impl.InitStack(a)
	return s + fmt.Sprintln(b, code)
}

func TestStackCallsDoNotHangOnEarlierOnes(t *testing.T) {
	arenas := append(stackArenas(), arenaOf(0), arenaOf(0, 6, 6, -1, 0))
	for _, a := range badArenas() {
		arenas = append(arenas, a)
	}
	threads := append(stackThreads()[:170], idleThreads()[0], parkedThreads()[0], putAt(0), swapAt(0), running(1, impl.OpCount, 0, 0, [5]int{}), impl.Thread{Id: 9})
	first := map[[2]int]string{}
	for turn := range 2 {
		for i, a := range arenas {
			for j, x := range threads {
				said := sayStack(a, x)
				if turn == 0 {
					first[[2]int{i, j}] = said
				}
				if said != first[[2]int{i, j}] {
					t.Errorf("alike arguments, other answers: %v %+v: %s and %s", a, x, said, first[[2]int{i, j}])
				}
			}
		}
	}
}

// No step writes into the cells it is given, nor behind them, nor hands them out again.
func TestStackKeepsItsArguments(t *testing.T) {
	for _, was := range [][]int{emptyStack(), twoLie(), oneComes()} {
		for _, x := range stackThreads() {
			cells := guarded(was...)
			b, _, code := impl.StepStack(impl.Arena{Cells: cells}, x)
			wantCode(t, "StepStack", code, impl.OK)
			for i := range b.Cells[:cap(b.Cells)] {
				b.Cells[:cap(b.Cells)][i] = -1
			}
			wantUntouched(t, fmt.Sprint("StepStack at ", x.Pc), cells, was...)
		}
	}
	full := fullQueue(twoLie(), 0)
	b, _, code := impl.StepStack(arenaOf(full...), pushAt(0))
	wantCode(t, "StepStack", code, impl.OK)
	b.Cells[8] = -1
	wantCells(t, "StepStack without room", arenaOf(full...), fullQueue(twoLie(), 0)...)
	cells := guarded(emptySwap()...)
	b, code = impl.InitStack(impl.Arena{Cells: cells})
	wantCode(t, "InitStack", code, impl.OK)
	b.Cells[0] = -1
	wantUntouched(t, "InitStack", cells, emptySwap()...)
	cells = guarded(twoLie()...)
	list, code := impl.StackItems(impl.Arena{Cells: cells})
	wantCode(t, "StackItems", code, impl.OK)
	list[0] = -1
	wantUntouched(t, "StackItems", cells, twoLie()...)
}
