package tests

import (
	"fmt"
	"math/rand"
	"slices"
	"testing"

	"loop.example/g00624/impl"
)

// treeRun is a tree with threads that count, whose steps come in any order.
type treeRun struct {
	t       *testing.T
	arena   impl.Arena
	threads []impl.Thread
	// todo is how many counts each thread has yet to begin, and steps how many
	// it took of the one that is under way.
	todo, steps []int
	// begun is how many there were, and told the numbers that they were told,
	// in the order in which they ended.
	begun int
	told  []int
}

func newTreeRun(t *testing.T, todo ...int) *treeRun {
	r := &treeRun{t: t, arena: arenaOf(emptyTree()...), todo: slices.Clone(todo)}
	r.threads = make([]impl.Thread, len(todo))
	r.steps = make([]int, len(todo))
	for k := range r.threads {
		r.threads[k].Id = k
	}
	return r
}

// fork is the same run once more, which shares no memory with it.
func (r *treeRun) fork() *treeRun {
	out := *r
	out.arena = arenaOf(slices.Clone(r.arena.Cells)...)
	out.threads, out.told = slices.Clone(r.threads), slices.Clone(r.told)
	out.todo, out.steps = slices.Clone(r.todo), slices.Clone(r.steps)
	return &out
}

func (r *treeRun) isOver(k int) bool {
	return r.threads[k].Status == impl.ThIdle && r.todo[k] == 0
}

// step is the thread's next step; one that is idle begins its next count first.
func (r *treeRun) step(k int) {
	r.t.Helper()
	x := r.threads[k]
	if x.Status == impl.ThIdle {
		r.todo[k]--
		r.steps[k] = 0
		r.begun++
		y, code := impl.BeginCall(x, impl.OpCount, 0, 0)
		wantCode(r.t, "BeginCall", code, impl.OK)
		x = y
	}
	b, y, code := impl.StepTree(r.arena, x)
	wantCode(r.t, "StepTree", code, impl.OK)
	wantOneCellOrNode(r.t, r.arena.Cells, b.Cells, 0)
	if !impl.ArenaOK(b) || !impl.ThreadOK(y) || y.Id != k {
		r.t.Fatalf("not right any more: %v %+v", b, y)
	}
	r.steps[k]++
	if (y.Status == impl.ThIdle) != (r.steps[k] == 3) {
		r.t.Fatalf("%d steps, and then %+v", r.steps[k], y)
	}
	if y.Status == impl.ThIdle {
		wantThread(r.t, "a count", y, ended(k, impl.OK, y.Result))
		r.note(y.Result)
	}
	r.arena, r.threads[k] = b, y
	wantCount(r.t, "as many as were told", b.Cells, len(r.told))
}

// note holds a number against the others: told once, and below the number of counts.
func (r *treeRun) note(n int) {
	r.t.Helper()
	if slices.Contains(r.told, n) || n >= r.begun {
		r.t.Errorf("told %d after %v, of %d counts", n, r.told, r.begun)
	}
	r.told = append(r.told, n)
}

// settle lets one thread end its counts, which nobody disturbs.
func (r *treeRun) settle(k int) {
	r.t.Helper()
	for !r.isOver(k) {
		r.step(k)
	}
}

// finish ends all counts, with the steps as a seed says.
func (r *treeRun) finish(random *rand.Rand) {
	r.t.Helper()
	for {
		var open []int
		for k := range r.threads {
			if !r.isOver(k) {
				open = append(open, k)
			}
		}
		if len(open) == 0 {
			return
		}
		r.step(open[random.Intn(len(open))])
	}
}

// wantFromZero: when all have ended, they were told the numbers from 0 on.
func (r *treeRun) wantFromZero() {
	r.t.Helper()
	for i, n := range slices.Sorted(slices.Values(r.told)) {
		if n != i {
			r.t.Errorf("told %v, which are not the numbers from 0 on", r.told)
			return
		}
	}
	if len(r.told) != r.begun {
		r.t.Errorf("%d counts, and told %v", r.begun, r.told)
	}
}

// everyTreeRun leads the run on in all orders of steps; each way to the end is looked at once.
func everyTreeRun(r *treeRun, look func(*treeRun)) int {
	seen := map[string]bool{}
	todo := []*treeRun{r}
	for len(todo) > 0 && !r.t.Failed() {
		last := todo[len(todo)-1]
		todo = todo[:len(todo)-1]
		key := fmt.Sprint(last.arena, last.threads, last.todo, last.told)
		if seen[key] {
			continue
		}
		seen[key] = true
		over := true
		for k := range last.threads {
			if !last.isOver(k) {
				over = false
				more := last.fork()
				more.step(k)
				todo = append(todo, more)
			}
		}
		if over {
			look(last)
		}
	}
	return len(seen)
}

// Promise 8: one after the other, who counts is told the numbers from 0 on.
func TestCountsAreToldTheNumbersFromZeroOn(t *testing.T) {
	random := rand.New(rand.NewSource(1))
	for name, who := range map[string]func(int) int{
		"one thread":          func(int) int { return 2 },
		"one after the other": func(i int) int { return i % 4 },
		"two by two":          func(i int) int { return i / 2 % 4 },
		"any":                 func(int) int { return random.Intn(4) },
	} {
		r := newTreeRun(t, 0, 0, 0, 0)
		for i := range 200 {
			k := who(i)
			r.todo[k] = 1
			r.settle(k)
			wantThread(t, name, r.threads[k], ended(k, impl.OK, i))
		}
		wantCells(t, name, r.arena, treeOf(200, 100, 100, 200, 201, 202, 203)...)
	}
}

// The steps of counts that nobody disturbs, one by one.
func TestTreeStepsOfOneThread(t *testing.T) {
	r := newTreeRun(t, 5)
	for i, c := range []struct {
		tree []int
		x    impl.Thread
	}{
		{treeOf(1, 0, 0, 0, 1, 2, 3), running(0, impl.OpCount, 0, 1, [5]int{})},
		{treeOf(1, 1, 0, 0, 1, 2, 3), running(0, impl.OpCount, 0, 2, [5]int{})},
		{treeOf(1, 1, 0, 4, 1, 2, 3), ended(0, impl.OK, 0)},
		{treeOf(2, 1, 0, 4, 1, 2, 3), running(0, impl.OpCount, 0, 1, [5]int{1})},
		{treeOf(2, 1, 1, 4, 1, 2, 3), running(0, impl.OpCount, 0, 2, [5]int{1})},
		{treeOf(2, 1, 1, 4, 5, 2, 3), ended(0, impl.OK, 1)},
		{treeOf(3, 1, 1, 4, 5, 2, 3), running(0, impl.OpCount, 0, 1, [5]int{})},
		{treeOf(3, 2, 1, 4, 5, 2, 3), running(0, impl.OpCount, 0, 2, [5]int{0, 1})},
		{treeOf(3, 2, 1, 4, 5, 6, 3), ended(0, impl.OK, 2)},
		{treeOf(4, 2, 1, 4, 5, 6, 3), running(0, impl.OpCount, 0, 1, [5]int{1})},
		{treeOf(4, 2, 2, 4, 5, 6, 3), running(0, impl.OpCount, 0, 2, [5]int{1, 1})},
		{treeOf(4, 2, 2, 4, 5, 6, 7), ended(0, impl.OK, 3)},
		{treeOf(5, 2, 2, 4, 5, 6, 7), running(0, impl.OpCount, 0, 1, [5]int{})},
		{treeOf(5, 3, 2, 4, 5, 6, 7), running(0, impl.OpCount, 0, 2, [5]int{})},
		{treeOf(5, 3, 2, 8, 5, 6, 7), ended(0, impl.OK, 4)},
	} {
		r.step(0)
		wantCells(t, fmt.Sprint("step ", i), r.arena, c.tree...)
		wantThread(t, fmt.Sprint("step ", i), r.threads[0], c.x)
	}
}

// Who is first at the root may be told last, and who is first at a toggle, too.
func TestCountsMayPass(t *testing.T) {
	r := newTreeRun(t, 1, 1, 1)
	r.step(0)
	r.settle(1)
	r.settle(2)
	r.settle(0)
	if !slices.Equal(r.told, []int{1, 0, 2}) {
		t.Error("passed at the root:", r.told)
	}
	// The first one does not come to its leaf until the fifth one was there.
	r = newTreeRun(t, 1, 4)
	r.step(0)
	r.step(0)
	r.settle(1)
	r.settle(0)
	if !slices.Equal(r.told, []int{1, 2, 3, 0, 4}) {
		t.Error("passed at a toggle:", r.told)
	}
}

// Two and three threads count, with their steps in any order.
func TestCountsInEveryOrder(t *testing.T) {
	states := 0
	for _, c := range []struct {
		todo []int
		ways int
	}{
		{[]int{1}, 1}, {[]int{5}, 1}, {[]int{1, 1}, 2}, {[]int{2, 1}, 3}, {[]int{2, 2}, 3}, {[]int{3, 3}, 3},
		{[]int{5, 1}, 3}, {[]int{1, 1, 1}, 6}, {[]int{2, 1, 1}, 6}, {[]int{2, 2, 1}, 6}, {[]int{3, 1, 1}, 6},
	} {
		ways := map[string]bool{}
		states += everyTreeRun(newTreeRun(t, c.todo...), func(r *treeRun) {
			r.wantFromZero()
			ways[fmt.Sprint(r.told)] = true
			// Whatever the order was, the next one is told the next number.
			r.todo[0] = 1
			r.settle(0)
			wantThread(t, "the next one", r.threads[0], ended(0, impl.OK, r.begun-1))
		})
		if len(ways) < c.ways || c.ways == 1 && len(ways) != 1 {
			t.Errorf("orders of %v: %v", c.todo, ways)
		}
	}
	if states < 5000 {
		t.Error("runs that say too little: states", states)
	}
}

// Four threads count as a seed says, with their steps in any order; now and then all have ended.
func TestManyCountsInAnyOrder(t *testing.T) {
	passed := 0
	for seed := range int64(60) {
		random := rand.New(rand.NewSource(seed))
		r := newTreeRun(t, 0, 0, 0, 0)
		for range 8 {
			for k := range r.todo {
				r.todo[k] = random.Intn(6)
			}
			r.finish(random)
			r.wantFromZero()
		}
		if !slices.IsSorted(r.told) {
			passed++
		}
		if t.Failed() {
			t.Fatal("seed", seed)
		}
	}
	if passed < 30 {
		t.Error("runs that say too little: passed", passed)
	}
}

// A count needs no room.
func TestCountsInAFullArena(t *testing.T) {
	r := newTreeRun(t, 9, 9)
	r.arena.Cells = fullQueue(emptyTree(), 0)
	r.finish(rand.New(rand.NewSource(2)))
	r.wantFromZero()
	wantCells(t, "all else stays", r.arena, fullQueue(treeOf(18, 9, 9, 20, 21, 18, 19), 0)...)
}

// Steps of the queue, of swaps and of the stack on the same arena leave the tree as it is.
func TestCountsBesideOthers(t *testing.T) {
	r := newTreeRun(t, 6)
	others := []impl.Thread{running(1, impl.OpPut, 3, 0, [5]int{}), running(2, impl.OpSwap, 8, 0, [5]int{}), running(3, impl.OpPush, 4, 0, [5]int{})}
	push := func(a impl.Arena, x impl.Thread, _ int) (impl.Arena, impl.Thread, int, int) {
		b, y, code := impl.StepStack(a, x)
		return b, y, -1, code
	}
	steps := []stepCall{impl.StepQueue, impl.StepSwap, push}
	for !r.isOver(0) {
		r.step(0)
		for i, x := range others {
			if x.Status == impl.ThRuns {
				b, y, _, code := steps[i](r.arena, x, 0)
				wantCode(t, "a step of another kind", code, impl.OK)
				r.arena, others[i] = b, y
			}
		}
		wantCount(t, "beside others", r.arena.Cells, len(r.told))
	}
	if !slices.Equal(r.told, []int{0, 1, 2, 3, 4, 5}) {
		t.Error("told:", r.told)
	}
	wantWaiters(t, "the put waits", r.arena.Cells, 1)
	wantOffer(t, "the swap offers", r.arena.Cells, 2, 8, impl.OK)
	wantItems(t, "what was pushed lies there", r.arena.Cells, 4)
}

// treeThreads are counts at every Pc, with registers of all sorts.
func treeThreads() []impl.Thread {
	numbers := []int{-impl.MaxWord, -10, -9, -8, -2, -1, 0, 0, 0, 1, 1, 1, 2, 3, 5, 6, 390, 391, impl.MaxWord - 1, impl.MaxWord}
	random := rand.New(rand.NewSource(9))
	var all []impl.Thread
	for i := range 17 * 40 {
		x := running(i%4, impl.OpCount, 0, i%17, [5]int{})
		for k := range x.Regs {
			x.Regs[k] = numbers[random.Intn(len(numbers))]
		}
		x.Permit, x.Cancel = random.Intn(2) == 0, random.Intn(4) == 0
		all = append(all, x)
	}
	return all
}

// treeArenas are right, and have cells enough for a step; some have a tree.
func treeArenas() []impl.Arena {
	all := stackArenas()
	for _, cells := range [][]int{emptyTree(), treeOf(1, 1, 0, 4, 1, 2, 3), treeOf(7, 6, 5, 4, 3, 2, 1), treeOf(-1, -1, -2, -1, -4, -5, -6),
		slices.Repeat([]int{0}, 9), slices.Repeat([]int{0}, 10), slices.Repeat([]int{0}, 11), slices.Repeat([]int{0}, 14),
		append(emptyStack(), slices.Repeat([]int{impl.MaxWord}, 7)...), append(emptyStack(), slices.Repeat([]int{-impl.MaxWord}, 7)...),
		append(emptyStack(), slices.Repeat([]int{impl.MaxWord - 3}, 7)...), append(emptyTree(), 1, 2, 3),
		fullQueue(emptyTree(), 0), fullQueue(emptyTree(), 1)} {
		all = append(all, arenaOf(cells...))
	}
	return all
}

// Whatever a step is given: one cell at most, by 1 or by Leaves; no new ones; a right arena and a right thread.
func TestTreeStepChangesOneCell(t *testing.T) {
	for _, a := range treeArenas() {
		for _, x := range treeThreads() {
			b, y, code := impl.StepTree(a, x)
			wantCode(t, "StepTree", code, impl.OK)
			wantOneCellOrNode(t, a.Cells, b.Cells, 0)
			more := 4
			if x.Pc < 2 {
				more = 1
			}
			for i, was := range a.Cells {
				if b.Cells[i] != was && (b.Cells[i] != was+more || i == 0) {
					t.Errorf("cell %d from %d to %d at %d", i, was, b.Cells[i], x.Pc)
				}
			}
			if !impl.ArenaOK(b) || !impl.ThreadOK(y) || y.Id != x.Id || y.Code != impl.OK {
				t.Errorf("from %+v to %+v, %v", x, y, b)
			}
		}
	}
}

// Whatever it is given, a count ends in three steps, and each of them goes on.
func TestCountsEnd(t *testing.T) {
	for _, a := range treeArenas() {
		for _, x := range treeThreads() {
			first, b, steps := x, a, 0
			for x.Status == impl.ThRuns && steps <= 3 {
				b, x, _ = impl.StepTree(b, x)
				steps++
			}
			if steps != max(1, 3-first.Pc) {
				t.Errorf("%d steps of %+v, %v", steps, first, a)
			}
		}
	}
}

// sayTree calls all that is about the tree with what it is given, and tells all answers.
func sayTree(a impl.Arena, x impl.Thread) string {
	b, y, code := impl.StepTree(a, x)
	s := fmt.Sprintln(b, y, code)
	n, code := impl.TreeCount(a)
	s += fmt.Sprintln(n, code)
	n, code = impl.LeafOf(x.Regs[0], x.Regs[1])
	s += fmt.Sprintln(n, code)
	b, code = impl.InitTree(a)
	return s + fmt.Sprintln(b, code)
}

func TestTreeCallsDoNotHangOnEarlierOnes(t *testing.T) {
	arenas := append(treeArenas(), arenaOf(0), arenaOf(0, 6, 6, -1, 0))
	for _, a := range badArenas() {
		arenas = append(arenas, a)
	}
	threads := append(treeThreads()[:102], idleThreads()[0], parkedThreads()[0], putAt(0), swapAt(0), pushAt(0), popAt(0), impl.Thread{Id: 9})
	first := map[[2]int]string{}
	for turn := range 2 {
		for i, a := range arenas {
			for j, x := range threads {
				said := sayTree(a, x)
				if turn == 0 {
					first[[2]int{i, j}] = said
				}
				if said != first[[2]int{i, j}] {
					t.Errorf("alike arguments, other answers: %v %+v: %s and %s", a, x, said, first[[2]int{i, j}])
				}
			}
		}
	}
}

// No step writes into the cells it is given, nor behind them, nor hands them out again.
func TestTreeKeepsItsArguments(t *testing.T) {
	for _, was := range [][]int{emptyStack(), emptyTree(), treeOf(7, 6, 5, 4, 3, 2, impl.MaxWord)} {
		for _, x := range treeThreads() {
			cells := guarded(was...)
			b, _, code := impl.StepTree(impl.Arena{Cells: cells}, x)
			wantCode(t, "StepTree", code, impl.OK)
			for i := range b.Cells[:cap(b.Cells)] {
				b.Cells[:cap(b.Cells)][i] = -1
			}
			wantUntouched(t, fmt.Sprint("StepTree at ", x.Pc), cells, was...)
		}
	}
	cells := guarded(emptyStack()...)
	b, code := impl.InitTree(impl.Arena{Cells: cells})
	wantCode(t, "InitTree", code, impl.OK)
	for i := range b.Cells {
		b.Cells[i] = -1
	}
	wantUntouched(t, "InitTree", cells, emptyStack()...)
	b, code = impl.InitTree(arenaOf(emptyStack()...))
	wantCode(t, "InitTree once more", code, impl.OK)
	wantCells(t, "InitTree once more", b, emptyTree()...)
	cells = guarded(treeOf(1, 1, 0, 4, 1, 2, 3)...)
	_, code = impl.TreeCount(impl.Arena{Cells: cells})
	wantCode(t, "TreeCount", code, impl.OK)
	wantUntouched(t, "TreeCount", cells, treeOf(1, 1, 0, 4, 1, 2, 3)...)
}
