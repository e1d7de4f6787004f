package tests

import (
	"fmt"
	"slices"
	"testing"

	"loop.example/g00624/impl"
)

// plainStep is a step of calls that neither ask for the time nor wake anybody.
type plainStep func(impl.Arena, impl.Thread) (impl.Arena, impl.Thread, int)

// plainRow is one such step: what it is given, and all that it is to answer.
type plainRow struct {
	name   string
	cells  []int
	thread impl.Thread
	want   []int
	then   impl.Thread
}

// emptyStack is what InitStack answers of a queue and a slot that are new.
func emptyStack() []int { return append(emptySwap(), 0) }

// twoLie is a stack with 5, at 10, on top of 6, at 8.
func twoLie() []int { return append(emptySwap(), 10, 6, 0, 5, 8) }

// oneComes is a stack with 6 alone, at 8; a node of 7, at 10, is not laid on it yet.
func oneComes() []int { return append(emptySwap(), 8, 6, 0, 7, 0) }

// pushAt is a push of 7 by thread 2.
func pushAt(pc int, regs ...int) impl.Thread { return running(2, impl.OpPush, 7, pc, five(regs)) }

// popAt is a pop by thread 3.
func popAt(pc int, regs ...int) impl.Thread { return running(3, impl.OpPop, 0, pc, five(regs)) }

// lastSteps are the Pc of the last step, and those that have no step of their own.
func lastSteps() []int {
	var all []int
	for pc := 3; pc <= 16; pc++ {
		all = append(all, pc)
	}
	return all
}

func wantStack(t *testing.T, rows ...plainRow) {
	t.Helper()
	wantPlainSteps(t, impl.StepStack, rows)
}

func wantPlainSteps(t *testing.T, step plainStep, rows []plainRow) {
	t.Helper()
	for _, r := range rows {
		if !impl.ThreadOK(r.thread) || !impl.ArenaOK(arenaOf(r.cells...)) {
			t.Errorf("%s: the row itself is not right", r.name)
		}
		b, y, code := step(arenaOf(r.cells...), r.thread)
		wantCode(t, r.name, code, impl.OK)
		wantCells(t, r.name, b, r.want...)
		wantThread(t, r.name, y, r.then)
		if !impl.ThreadOK(y) || !impl.ArenaOK(b) {
			t.Errorf("%s: not right any more: %v %+v", r.name, b, y)
		}
	}
}

func wantItems(t *testing.T, what string, cells []int, items ...int) {
	t.Helper()
	a := arenaOf(cells...)
	list, code := impl.StackItems(a)
	wantCode(t, what, code, impl.OK)
	n, code := impl.StackDepth(a)
	wantCode(t, what, code, impl.OK)
	if !slices.Equal(list, items) || n != len(items) {
		t.Errorf("%s: items %v, depth %d, want %v", what, list, n, items)
	}
}

func TestInitStack(t *testing.T) {
	if impl.StackTop != 7 {
		t.Error("StackTop:", impl.StackTop)
	}
	// What the seven cells have does not count.
	for _, cells := range [][]int{emptySwap(), make([]int, 7), {0, 13, 6, 9, -impl.MaxWord, impl.MaxWord, -1}} {
		a, code := impl.InitStack(arenaOf(cells...))
		wantCode(t, "InitStack", code, impl.OK)
		wantCells(t, "InitStack", a, append(slices.Clone(cells), 0)...)
		if !impl.ArenaOK(a) {
			t.Error("not right:", a)
		}
		wantItems(t, "a new stack", a.Cells)
	}
	for _, n := range []int{1, 2, 5, 6, 8, 9, 14, 15, impl.MaxCells - 1, impl.MaxCells} {
		b, code := impl.InitStack(impl.Arena{Cells: make([]int, n)})
		wantCode(t, fmt.Sprint("InitStack of cells: ", n), code, impl.ErrSize)
		wantCells(t, "InitStack", b)
	}
	for name, bad := range badArenas() {
		b, code := impl.InitStack(bad)
		wantCode(t, "InitStack of "+name, code, impl.ErrBad)
		wantCells(t, "InitStack of "+name, b)
	}
	b, code := impl.InitStack(arenaOf(1, 0, 0, 0, 0, 0, 0))
	wantCode(t, "InitStack of seven cells that are not right", code, impl.ErrBad)
	wantCells(t, "InitStack", b)
}

func TestPushSteps(t *testing.T) {
	empty, two, comes := emptyStack(), twoLie(), oneComes()
	laid := withCell(comes, 11, 8)
	onTop := withCell(laid, 7, 10)
	wantStack(t,
		plainRow{"0 of an empty stack", empty, pushAt(0), append(emptyStack(), 7, 0), pushAt(1, 0, 8)},
		plainRow{"0 behind others", two, pushAt(0), append(twoLie(), 7, 0), pushAt(1, 0, 12)},
		plainRow{"0 keeps the other registers", empty, pushAt(0, 1, 2, 3, 4, 5), append(emptyStack(), 7, 0), pushAt(1, 1, 8, 3, 4, 5)},
		plainRow{"1 of an empty stack", empty, pushAt(1, 9, 8, 3, 4, 5), empty, pushAt(2, 0, 8, 3, 4, 5)},
		plainRow{"1 of another one's top", comes, pushAt(1, 0, 10), comes, pushAt(2, 8, 10)},
		plainRow{"1 of one's own node", withCell(comes, 7, 10), pushAt(1, 8, 10), withCell(comes, 7, 10), pushAt(2, 10, 10)},
		plainRow{"2 lays the node on the top", comes, pushAt(2, 8, 10, 3, 4, 5), laid, pushAt(3, 8, 10, 3, 4, 5)},
		plainRow{"2 on nothing", laid, pushAt(2, 0, 10), comes, pushAt(3, 0, 10)},
		plainRow{"2 on another one than ahead", laid, pushAt(2, 12, 10), withCell(laid, 11, 12), pushAt(3, 12, 10)},
		plainRow{"2 does not look at the top", withCell(comes, 7, 0), pushAt(2, 8, 10), withCell(laid, 7, 0), pushAt(3, 8, 10)},
		plainRow{"2 on itself", comes, pushAt(2, 10, 10), withCell(comes, 11, 10), pushAt(3, 10, 10)},
	)
	for _, pc := range lastSteps() {
		wantStack(t,
			plainRow{fmt.Sprint("the top is moved at ", pc), laid, pushAt(pc, 8, 10, 3, 4, 5), onTop, ended(2, impl.OK, 7)},
			plainRow{fmt.Sprint("from none at ", pc), withCell(comes, 7, 0), pushAt(pc, 0, 10), withCell(comes, 7, 10), ended(2, impl.OK, 7)},
			plainRow{fmt.Sprint("the top is another one at ", pc), two, pushAt(pc, 8, 12, 3, 4, 5), two, pushAt(1, 8, 12, 3, 4, 5)},
			plainRow{fmt.Sprint("the top is none any more at ", pc), empty, pushAt(pc, 8, 10), empty, pushAt(1, 8, 10)},
			plainRow{fmt.Sprint("the top is none no more at ", pc), laid, pushAt(pc, 0, 10), laid, pushAt(1, 0, 10)},
			plainRow{fmt.Sprint("the top is one's own node at ", pc), onTop, pushAt(pc, 8, 10), onTop, pushAt(1, 8, 10)},
			plainRow{fmt.Sprint("from one's own node at ", pc), onTop, pushAt(pc, 10, 10), onTop, ended(2, impl.OK, 7)},
			plainRow{fmt.Sprint("what lies below does not count at ", pc), comes, pushAt(pc, 8, 10), withCell(comes, 7, 10), ended(2, impl.OK, 7)},
			plainRow{fmt.Sprint("the node's value does not count at ", pc), withCell(laid, 10, 3), pushAt(pc, 8, 10), withCell(onTop, 10, 3), ended(2, impl.OK, 7)},
		)
	}
}

// The least and the greatest value, and every thread.
func TestPushValues(t *testing.T) {
	for id := range 4 {
		for _, arg := range []int{0, 1, 998, 999} {
			made := append(emptyStack(), arg, 0)
			name := fmt.Sprint("push of ", arg)
			wantStack(t,
				plainRow{name, emptyStack(), running(id, impl.OpPush, arg, 0, [5]int{}), made, running(id, impl.OpPush, arg, 1, [5]int{0, 8})},
				plainRow{name, made, running(id, impl.OpPush, arg, 3, [5]int{0, 8}), withCell(made, 7, 8), ended(id, impl.OK, arg)},
			)
		}
	}
}

func TestPushWithoutRoom(t *testing.T) {
	for room := range 2 {
		cells := fullQueue(twoLie(), room)
		wantStack(t,
			plainRow{"no room for a node", cells, pushAt(0, 1, 2, 3), cells, ended(2, impl.ErrFull, 0)},
			plainRow{"1 needs no room", cells, pushAt(1, 0, 8), cells, pushAt(2, 10, 8)},
			plainRow{"a pop needs no room", cells, popAt(2, 10, 8), withCell(cells, 7, 8), popAt(3, 10, 8)},
		)
	}
	last := fullQueue(emptyStack(), 2)
	wantStack(t, plainRow{"the last node", last, pushAt(0), append(slices.Clone(last), 7, 0), pushAt(1, 0, 398)})
	full := append(slices.Clone(last), 7, 0)
	wantStack(t,
		plainRow{"the last node is laid", full, pushAt(2, 9, 398), withCell(full, 399, 9), pushAt(3, 9, 398)},
		plainRow{"the last node is the top", full, pushAt(3, 0, 398), withCell(full, 7, 398), ended(2, impl.OK, 7)},
	)
}

func TestPopSteps(t *testing.T) {
	empty, two := emptyStack(), twoLie()
	popped := withCell(two, 7, 8)
	wantStack(t,
		plainRow{"0 of an empty stack", empty, popAt(0), empty, ended(3, impl.ErrEmpty, 0)},
		plainRow{"0 of a stack that is empty by now", withCell(two, 7, 0), popAt(0, 10, 8, 3), withCell(two, 7, 0), ended(3, impl.ErrEmpty, 0)},
		plainRow{"0 reads the top", two, popAt(0), two, popAt(1, 10)},
		plainRow{"0 reads another top", popped, popAt(0, 10, 8, 3, 4, 5), popped, popAt(1, 8, 8, 3, 4, 5)},
		plainRow{"1 reads what is below", two, popAt(1, 10, 9, 3, 4, 5), two, popAt(2, 10, 8, 3, 4, 5)},
		plainRow{"1 of the last one", popped, popAt(1, 8, 9), popped, popAt(2, 8, 0)},
		plainRow{"1 of one that was popped", popped, popAt(1, 10, 9), popped, popAt(2, 10, 8)},
		plainRow{"2 moves the top", two, popAt(2, 10, 8, 3, 4, 5), popped, popAt(3, 10, 8, 3, 4, 5)},
		plainRow{"2 of the last one", popped, popAt(2, 8, 0), withCell(two, 7, 0), popAt(3, 8, 0)},
		plainRow{"2, the top is another one", popped, popAt(2, 10, 8, 3, 4, 5), popped, popAt(0, 10, 8, 3, 4, 5)},
		plainRow{"2, the top is none any more", withCell(two, 7, 0), popAt(2, 10, 8), withCell(two, 7, 0), popAt(0, 10, 8)},
		plainRow{"2, the top is what was below", popped, popAt(2, 10, 8), popped, popAt(0, 10, 8)},
		plainRow{"2 does not look below again", withCell(two, 11, 0), popAt(2, 10, 8), withCell(popped, 11, 0), popAt(3, 10, 8)},
		plainRow{"2 from a node to itself", two, popAt(2, 10, 10), two, popAt(3, 10, 10)},
	)
	for _, pc := range lastSteps() {
		wantStack(t,
			plainRow{fmt.Sprint("its value at ", pc), popped, popAt(pc, 10, 8, 3, 4, 5), popped, ended(3, impl.OK, 5)},
			plainRow{fmt.Sprint("of the last one at ", pc), withCell(two, 7, 0), popAt(pc, 8), withCell(two, 7, 0), ended(3, impl.OK, 6)},
			plainRow{fmt.Sprint("it does not look at the top at ", pc), two, popAt(pc, 8, 10), two, ended(3, impl.OK, 6)},
		)
	}
}

// No result is below 0, whatever lies in the cell.
func TestPopValues(t *testing.T) {
	for v, result := range map[int]int{
		-impl.MaxWord: 0, -2: 0, -1: 0, 0: 0, 1: 1, 5: 5, 999: 999, 1000: 1000, impl.MaxWord: impl.MaxWord,
	} {
		cells := withCell(twoLie(), 10, v)
		for id := range 4 {
			for _, pc := range lastSteps() {
				x := running(id, impl.OpPop, 0, pc, [5]int{10, 8})
				wantStack(t, plainRow{fmt.Sprint("a value of ", v), cells, x, cells, ended(id, impl.OK, result)})
			}
		}
		wantItems(t, fmt.Sprint("a value of ", v), cells, v, 6)
	}
}

// Neither call waits, so neither a permit nor a cancel counts; both are kept till the end.
func TestStackDoesNotGiveUp(t *testing.T) {
	for pc := range 17 {
		for _, x := range []impl.Thread{pushAt(pc, 10, 8), popAt(pc, 10, 8), pushAt(pc, 8, 10), popAt(pc, 8, 0)} {
			for _, cells := range [][]int{emptyStack(), twoLie()} {
				b, plain, code := impl.StepStack(arenaOf(cells...), x)
				wantCode(t, "StepStack", code, impl.OK)
				if plain.Status == impl.ThRuns {
					plain = withPermit(cancelled(plain), true)
				}
				wantStack(t, plainRow{fmt.Sprint("cancelled at ", pc), cells, withPermit(cancelled(x), true), b.Cells, plain})
			}
		}
	}
}

// Cells that are not there are loaded as 0, cell 0 too. The last cell is 11.
func TestStackLoadsWhatIsNotThere(t *testing.T) {
	two := twoLie()
	for _, far := range []int{12, 13, 399, 400, 1000, impl.MaxWord, -1, -2, -3, -400, -impl.MaxWord} {
		wantStack(t,
			plainRow{fmt.Sprint("below ", far), two, popAt(1, far, 9), two, popAt(2, far, 0)},
			plainRow{fmt.Sprint("the value of ", far), two, popAt(3, far, 9), two, ended(3, impl.OK, 0)},
		)
	}
	wantStack(t,
		plainRow{"below 0 is the head", two, popAt(1, 0, 9), two, popAt(2, 0, 6)},
		plainRow{"the value of 0", two, popAt(3, 0, 9), two, ended(3, impl.OK, 0)},
		plainRow{"below the last cell", two, popAt(1, 11, 9), two, popAt(2, 11, 0)},
		plainRow{"the value in the last cell", two, popAt(3, 11, 9), two, ended(3, impl.OK, 8)},
		plainRow{"below in the last cell", two, popAt(1, 10, 9), two, popAt(2, 10, 8)},
		plainRow{"below the slot is the top", two, popAt(1, 6, 9), two, popAt(2, 6, 10)},
	)
}

// Nothing is written to cells that are not there, nor to cell 0.
func TestPushWritesToWhatIsNotThere(t *testing.T) {
	two := twoLie()
	for _, far := range []int{11, 12, 13, 399, 400, 1000, impl.MaxWord, -1, -2, -3, -400, -impl.MaxWord} {
		for _, below := range []int{-impl.MaxWord, -1, 0, 1, 8, impl.MaxWord} {
			wantStack(t, plainRow{fmt.Sprint("below ", far), two, pushAt(2, below, far), two, pushAt(3, below, far)})
		}
	}
	wantStack(t,
		plainRow{"in the last cell", two, pushAt(2, 3, 10), withCell(two, 11, 3), pushAt(3, 3, 10)},
		plainRow{"below 0 is the head", two, pushAt(2, 3, 0), withCell(two, 1, 3), pushAt(3, 3, 0)},
		plainRow{"below the slot is the top", two, pushAt(2, 3, 6), withCell(two, 7, 3), pushAt(3, 3, 6)},
	)
}

// Six cells are enough for a step. A top that is not there is 0: a change of it
// from 0 is done, though nothing is written.
func TestStackStepsWithoutATop(t *testing.T) {
	for _, cells := range [][]int{emptyQueue(), emptySwap()} {
		n := len(cells)
		wantStack(t,
			plainRow{"push 0", cells, pushAt(0), append(slices.Clone(cells), 7, 0), pushAt(1, 0, n)},
			plainRow{"push 1", cells, pushAt(1, 9, 3), cells, pushAt(2, 0, 3)},
			plainRow{"push 2", cells, pushAt(2, 9, 3), withCell(cells, 4, 9), pushAt(3, 9, 3)},
			plainRow{"push 3 from 0", cells, pushAt(3, 0, 3), cells, ended(2, impl.OK, 7)},
			plainRow{"push 16 from 0", cells, pushAt(16, 0, 3), cells, ended(2, impl.OK, 7)},
			plainRow{"pop 0", cells, popAt(0, 9), cells, ended(3, impl.ErrEmpty, 0)},
			plainRow{"pop 1", cells, popAt(1, 1), cells, popAt(2, 1, 6)},
			plainRow{"pop 2 from 0", cells, popAt(2, 0, 3), cells, popAt(3, 0, 3)},
			plainRow{"pop 3", cells, popAt(3, 2), cells, ended(3, impl.OK, 6)},
		)
		for _, old := range []int{-impl.MaxWord, -1, 1, 3, 7, impl.MaxWord} {
			wantStack(t,
				plainRow{"push 3 from another", cells, pushAt(3, old, 3), cells, pushAt(1, old, 3)},
				plainRow{"pop 2 from another", cells, popAt(2, old, 3), cells, popAt(0, old, 3)},
			)
		}
	}
}

// Tops and registers may have any numbers.
func TestStackNumbersOfAnySort(t *testing.T) {
	for _, v := range []int{-impl.MaxWord, -9, -2, -1, 1, 2, 7, 12, 400, impl.MaxWord} {
		top := withCell(twoLie(), 7, v)
		wantStack(t,
			plainRow{fmt.Sprint("push 1 of top ", v), top, pushAt(1, 0, 8), top, pushAt(2, v, 8)},
			plainRow{fmt.Sprint("push 2 of top ", v), top, pushAt(2, v, 8), withCell(top, 9, v), pushAt(3, v, 8)},
			plainRow{fmt.Sprint("push 3 from ", v), top, pushAt(3, v, 10), twoLie(), ended(2, impl.OK, 7)},
			plainRow{fmt.Sprint("push 3 to ", v), twoLie(), pushAt(3, 10, v), top, ended(2, impl.OK, 7)},
			plainRow{fmt.Sprint("push 3, the top is ", v), top, pushAt(3, 10, 8), top, pushAt(1, 10, 8)},
			plainRow{fmt.Sprint("pop 0 of top ", v), top, popAt(0), top, popAt(1, v)},
			plainRow{fmt.Sprint("pop 1, below is ", v), withCell(twoLie(), 11, v), popAt(1, 10), withCell(twoLie(), 11, v), popAt(2, 10, v)},
			plainRow{fmt.Sprint("pop 2 from ", v), top, popAt(2, v, 10), twoLie(), popAt(3, v, 10)},
			plainRow{fmt.Sprint("pop 2 to ", v), twoLie(), popAt(2, 10, v), top, popAt(3, 10, v)},
			plainRow{fmt.Sprint("pop 2, the top is ", v), top, popAt(2, 10, 8), top, popAt(0, 10, 8)},
		)
	}
	two := twoLie()
	wantStack(t,
		plainRow{"push 3 to none", two, pushAt(3, 10, 0), withCell(two, 7, 0), ended(2, impl.OK, 7)},
		plainRow{"push 0 goes by no registers", emptyStack(), pushAt(0, -impl.MaxWord, impl.MaxWord, -1), append(emptyStack(), 7, 0), pushAt(1, -impl.MaxWord, 8, -1)},
	)
}

func wantNoStackStep(t *testing.T, what string, a impl.Arena, x impl.Thread, want int) {
	t.Helper()
	wantNoPlainStep(t, what, impl.StepStack, a, x, want)
}

func wantNoPlainStep(t *testing.T, what string, step plainStep, a impl.Arena, x impl.Thread, want int) {
	t.Helper()
	b, y, code := step(a, x)
	wantCode(t, what, code, want)
	wantCells(t, what, b)
	wantThread(t, what, y, impl.Thread{})
}

// The faults in their order: of arena and thread, of the number of cells, of the call.
func TestStackStepFaults(t *testing.T) {
	right, few := arenaOf(twoLie()...), arenaOf(0, 6, 6, -1, 0)
	idle := ended(1, impl.ErrEmpty, 0)
	for name, bad := range badArenas() {
		wantNoStackStep(t, "a bad arena, "+name, bad, pushAt(0), impl.ErrBad)
		wantNoStackStep(t, "a bad arena, "+name, bad, popAt(0), impl.ErrBad)
		wantNoStackStep(t, "a bad arena and an idle thread, "+name, bad, idle, impl.ErrBad)
	}
	for name, bad := range badThreads() {
		wantNoStackStep(t, "a bad thread, "+name, right, bad, impl.ErrBad)
		wantNoStackStep(t, "a bad thread and few cells, "+name, few, bad, impl.ErrBad)
	}
	for n := 1; n < 6; n++ {
		a := impl.Arena{Cells: make([]int, n)}
		wantNoStackStep(t, "few cells, push", a, pushAt(0), impl.ErrRange)
		wantNoStackStep(t, "few cells, pop", a, popAt(0), impl.ErrRange)
		wantNoStackStep(t, "few cells and an idle thread", a, idle, impl.ErrRange)
		wantNoStackStep(t, "few cells and a put", a, putAt(0), impl.ErrRange)
	}
}

func TestStackStepsOfNoPushOrPop(t *testing.T) {
	right := arenaOf(twoLie()...)
	for _, x := range slices.Concat(idleThreads(), parkedThreads()) {
		wantNoStackStep(t, "one that does not run", right, x, impl.ErrIdle)
	}
	seen := map[int]bool{}
	for _, x := range runningThreads() {
		seen[x.Op] = true
		if x.Op == impl.OpPush || x.Op == impl.OpPop {
			_, _, code := impl.StepStack(right, x)
			wantCode(t, "StepStack of push or pop", code, impl.OK)
			wantNoStep(t, "push or pop", impl.StepQueue, right, x, 0, impl.ErrIdle)
			wantNoStep(t, "push or pop", impl.StepSwap, right, x, 0, impl.ErrIdle)
			continue
		}
		wantNoStackStep(t, "another call", right, x, impl.ErrIdle)
	}
	if len(seen) != 6 {
		t.Error("not every call was tried:", seen)
	}
}

func TestStackItems(t *testing.T) {
	two := twoLie()
	wantItems(t, "empty", emptyStack())
	wantItems(t, "two", two, 5, 6)
	wantItems(t, "one was popped", withCell(two, 7, 8), 6)
	wantItems(t, "both were popped", withCell(two, 7, 0))
	wantItems(t, "one is not on top yet", oneComes(), 6)
	wantItems(t, "three", append(withCell(two, 7, 12), 9, 10), 9, 5, 6)
	wantItems(t, "alike values", withCell(two, 8, 5), 5, 5)
	wantItems(t, "values of 0", withCell(withCell(two, 8, 0), 10, 0), 0, 0)
	wantItems(t, "the least and the greatest", withCell(withCell(two, 8, impl.MaxWord), 10, -impl.MaxWord), -impl.MaxWord, impl.MaxWord)
}

// Arenas that are right, but have no top, or nodes that are not there.
func TestStackItemsOfOtherArenas(t *testing.T) {
	for n := 1; n <= 8; n++ {
		wantItems(t, fmt.Sprint("cells: ", n), make([]int, n))
	}
	wantItems(t, "a queue without a stack", emptyQueue())
	wantItems(t, "a slot without a stack", emptySwap())
	wantItems(t, "a swap's node where the top is to be", swapOffers(), slices.Repeat([]int{7}, impl.MaxCells)...)
	for _, far := range []int{12, 13, 399, 400, impl.MaxWord, -1, -2, -400, -impl.MaxWord} {
		wantItems(t, fmt.Sprint("the top at ", far), withCell(twoLie(), 7, far), 0)
		wantItems(t, fmt.Sprint("a node below at ", far), withCell(twoLie(), 11, far), 5, 0)
	}
	wantItems(t, "a node that is cut off", append(emptySwap(), 8, 9), 9)
	wantItems(t, "a top in the last cell", withCell(twoLie(), 7, 11), 8)
	wantItems(t, "a node over cells of the queue", withCell(twoLie(), 7, 4), 0)
}

// Of a stack that goes round MaxCells nodes are told.
func TestStacksThatGoRound(t *testing.T) {
	two := twoLie()
	wantItems(t, "one on itself", withCell(two, 11, 10), slices.Repeat([]int{5}, impl.MaxCells)...)
	wantItems(t, "two in a ring", withCell(two, 9, 10), slices.Repeat([]int{5, 6}, impl.MaxCells/2)...)
	three := append(append(emptySwap(), 12), 6, 12, 5, 8, 9, 10)
	wantItems(t, "three in a ring", three, slices.Repeat([]int{9, 5, 6}, impl.MaxCells)[:impl.MaxCells]...)
	wantItems(t, "a ring behind the top", withCell(two, 9, 8), append([]int{5}, slices.Repeat([]int{6}, impl.MaxCells-1)...)...)
	wantItems(t, "the top's own cell as a node", append(emptySwap(), 7, 7), slices.Repeat([]int{7}, impl.MaxCells)...)
}

// As many nodes as an arena can hold, which is fewer than MaxCells.
func TestStackThatFillsTheArena(t *testing.T) {
	cells := emptyStack()
	var items []int
	for len(cells)+2 <= impl.MaxCells {
		cells = append(cells, len(items), cells[7])
		cells[7] = len(cells) - 2
		items = append(items, len(items))
	}
	slices.Reverse(items)
	wantItems(t, "a full arena", cells, items...)
	if len(items) != 196 {
		t.Error("nodes:", len(items))
	}
}

func TestStackLooksRefuseBadArenas(t *testing.T) {
	for name, bad := range badArenas() {
		list, code := impl.StackItems(bad)
		wantCode(t, "StackItems of "+name, code, impl.ErrBad)
		n, code := impl.StackDepth(bad)
		wantCode(t, "StackDepth of "+name, code, impl.ErrBad)
		if len(list) != 0 || n != 0 {
			t.Error("not all is zero:", name)
		}
	}
	bad := withCell(twoLie(), 8, impl.MaxWord+1)
	list, code := impl.StackItems(arenaOf(bad...))
	wantCode(t, "StackItems of a value above", code, impl.ErrBad)
	if len(list) != 0 {
		t.Error("not all is zero:", list)
	}
}
