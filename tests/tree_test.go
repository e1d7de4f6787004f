package tests

import (
	"fmt"
	"math"
	"slices"
	"testing"

	"loop.example/g00624/impl"
)

// emptyTree is what InitTree answers of a queue, a slot and a stack that are new.
func emptyTree() []int { return append(emptyStack(), 0, 0, 0, 0, 1, 2, 3) }

// treeOf is a tree with these numbers in the root, the toggles and the leaves.
func treeOf(list ...int) []int { return append(emptyStack(), list...) }

// countAt is a count by thread 1.
func countAt(pc int, regs ...int) impl.Thread { return running(1, impl.OpCount, 0, pc, five(regs)) }

func wantTree(t *testing.T, rows ...plainRow) {
	t.Helper()
	wantPlainSteps(t, impl.StepTree, rows)
}

func wantCount(t *testing.T, what string, cells []int, want int) {
	t.Helper()
	n, code := impl.TreeCount(arenaOf(cells...))
	wantCode(t, what, code, impl.OK)
	if n != want {
		t.Errorf("%s: count %d, want %d", what, n, want)
	}
}

// leafSteps are the Pc of the last step of a count, and those that have no step of their own.
func leafSteps() []int { return append([]int{2}, lastSteps()...) }

func TestInitTree(t *testing.T) {
	if impl.TreeRoot != 8 || impl.TreeLeaf != 11 || impl.Leaves != 4 {
		t.Error("cells of the tree:", impl.TreeRoot, impl.TreeLeaf, impl.Leaves)
	}
	// What the eight cells have does not count.
	for _, cells := range [][]int{emptyStack(), make([]int, 8), {0, 13, 6, 9, -impl.MaxWord, impl.MaxWord, -1, 8}} {
		a, code := impl.InitTree(arenaOf(cells...))
		wantCode(t, "InitTree", code, impl.OK)
		wantCells(t, "InitTree", a, append(slices.Clone(cells), 0, 0, 0, 0, 1, 2, 3)...)
		if !impl.ArenaOK(a) {
			t.Error("not right:", a)
		}
		wantCount(t, "a new tree", a.Cells, 0)
	}
	// Those that have no room for seven cells more are of another size, too.
	for n := 1; n <= impl.MaxCells; n++ {
		if n == 8 {
			continue
		}
		b, code := impl.InitTree(impl.Arena{Cells: make([]int, n)})
		wantCode(t, fmt.Sprint("InitTree of cells: ", n), code, impl.ErrSize)
		wantCells(t, "InitTree", b)
	}
	for name, bad := range badArenas() {
		b, code := impl.InitTree(bad)
		wantCode(t, "InitTree of "+name, code, impl.ErrBad)
		wantCells(t, "InitTree of "+name, b)
	}
	b, code := impl.InitTree(arenaOf(1, 0, 0, 0, 0, 0, 0, 0))
	wantCode(t, "InitTree of eight cells that are not right", code, impl.ErrBad)
	wantCells(t, "InitTree", b)
}

func TestLeafOf(t *testing.T) {
	for first := range 9 {
		for second := range 9 {
			wantLeaf(t, first, second, first%2+2*(second%2), impl.OK)
		}
	}
	for _, even := range []int{0, 2, 998, impl.MaxWord - 2, impl.MaxWord} {
		for _, odd := range []int{1, 3, 999, impl.MaxWord - 3, impl.MaxWord - 1} {
			wantLeaf(t, even, even, 0, impl.OK)
			wantLeaf(t, odd, even, 1, impl.OK)
			wantLeaf(t, even, odd, 2, impl.OK)
			wantLeaf(t, odd, odd, 3, impl.OK)
		}
	}
	for _, far := range append([]int{-1, -2, -3, -4, -impl.MaxWord}, farNumbers...) {
		for _, other := range []int{0, 1, impl.MaxWord, -1, impl.MaxWord + 1, math.MinInt} {
			wantLeaf(t, far, other, 0, impl.ErrRange)
			wantLeaf(t, other, far, 0, impl.ErrRange)
		}
	}
}

func wantLeaf(t *testing.T, first, second, want, wantedCode int) {
	t.Helper()
	leaf, code := impl.LeafOf(first, second)
	wantCode(t, fmt.Sprint("LeafOf ", first, " and ", second), code, wantedCode)
	if leaf != want {
		t.Errorf("LeafOf %d and %d: leaf %d, want %d", first, second, leaf, want)
	}
}

func TestCountAtTheRoot(t *testing.T) {
	for _, c := range []struct{ root, bit int }{
		{0, 0}, {1, 1}, {2, 0}, {3, 1}, {6, 0}, {7, 1}, {999, 1}, {1000, 0},
		{-1, 1}, {-2, 0}, {-3, 1}, {-8, 0}, {1 - impl.MaxWord, 1}, {-impl.MaxWord, 0},
		{impl.MaxWord - 2, 0}, {impl.MaxWord - 1, 1},
	} {
		name := fmt.Sprint("a root of ", c.root)
		was, is := treeOf(c.root, 5, 7, 0, 1, 2, 3), treeOf(c.root+1, 5, 7, 0, 1, 2, 3)
		wantTree(t,
			plainRow{name, was, countAt(0), is, countAt(1, c.bit)},
			plainRow{name + ", of registers in use", was, countAt(0, 9, 2, 3, 4, 5), is, countAt(1, c.bit, 2, 3, 4, 5)},
		)
	}
	for id := range 4 {
		x, y := running(id, impl.OpCount, 0, 0, [5]int{-1}), running(id, impl.OpCount, 0, 1, [5]int{})
		wantTree(t, plainRow{"every thread", emptyTree(), x, treeOf(1, 0, 0, 0, 1, 2, 3), y})
	}
}

func TestCountAtAToggle(t *testing.T) {
	for _, c := range []struct{ toggle, bit int }{
		{0, 0}, {1, 1}, {2, 0}, {3, 1}, {6, 0}, {7, 1}, {999, 1}, {1000, 0},
		{-1, 1}, {-2, 0}, {-3, 1}, {-8, 0}, {1 - impl.MaxWord, 1}, {-impl.MaxWord, 0},
		{impl.MaxWord - 2, 0}, {impl.MaxWord - 1, 1},
	} {
		name := fmt.Sprint("a toggle of ", c.toggle)
		// Neither the root nor the other toggle counts, though they are of the other kind.
		other := 1 - c.bit
		wantTree(t,
			plainRow{name + ", the first", treeOf(other, c.toggle, other, 0, 1, 2, 3), countAt(1, 0),
				treeOf(other, c.toggle+1, other, 0, 1, 2, 3), countAt(2, 0, c.bit)},
			plainRow{name + ", the second", treeOf(other, other, c.toggle, 0, 1, 2, 3), countAt(1, 1),
				treeOf(other, other, c.toggle+1, 0, 1, 2, 3), countAt(2, 1, c.bit)},
			plainRow{name + ", of registers in use", treeOf(other, c.toggle, other, 0, 1, 2, 3), countAt(1, 0, 9, 3, 4, 5),
				treeOf(other, c.toggle+1, other, 0, 1, 2, 3), countAt(2, 0, c.bit, 3, 4, 5)},
		)
	}
}

func TestCountAtALeaf(t *testing.T) {
	was := treeOf(10, 20, 30, 40, 50, 60, 70)
	for leaf, regs := range [4][2]int{{0, 0}, {1, 0}, {0, 1}, {1, 1}} {
		at, told := 11+leaf, 40+10*leaf
		for _, pc := range leafSteps() {
			wantTree(t, plainRow{fmt.Sprint("leaf ", leaf, " at ", pc), was, countAt(pc, regs[0], regs[1], 3, 4, 5),
				withCell(was, at, told+4), ended(1, impl.OK, told)})
		}
	}
	for id := range 4 {
		x := running(id, impl.OpCount, 0, 2, [5]int{})
		wantTree(t, plainRow{"every thread", emptyTree(), x, treeOf(0, 0, 0, 4, 1, 2, 3), ended(id, impl.OK, 0)})
	}
}

// What a leaf had is told, even and odd; 0 of one that was below 0.
func TestCountsAreToldWhatALeafHad(t *testing.T) {
	for v, told := range map[int]int{
		0: 0, 1: 1, 2: 2, 3: 3, 4: 4, 7: 7, 996: 996, 1000: 1000, 4001: 4001,
		-1: 0, -2: 0, -3: 0, -4: 0, -5: 0, -1000: 0, -impl.MaxWord: 0,
		impl.MaxWord - 5: impl.MaxWord - 5, impl.MaxWord - 4: impl.MaxWord - 4,
	} {
		for leaf, regs := range [4][2]int{{0, 0}, {1, 0}, {0, 1}, {1, 1}} {
			was := withCell(emptyTree(), 11+leaf, v)
			wantTree(t, plainRow{fmt.Sprint("leaf ", leaf, " of ", v), was, countAt(2, regs[0], regs[1]),
				withCell(was, 11+leaf, v+4), ended(1, impl.OK, told)})
		}
	}
}

// What no cell can hold is not written, and the count goes on.
func TestCountsNearMaxWord(t *testing.T) {
	for _, c := range []struct{ was, is, bit int }{
		{impl.MaxWord - 2, impl.MaxWord - 1, 0}, {impl.MaxWord - 1, impl.MaxWord, 1}, {impl.MaxWord, impl.MaxWord, 0},
	} {
		tree := emptyTree()
		wantTree(t,
			plainRow{"the root", withCell(tree, 8, c.was), countAt(0, 9), withCell(tree, 8, c.is), countAt(1, c.bit)},
			plainRow{"the first toggle", withCell(tree, 9, c.was), countAt(1, 0, 9), withCell(tree, 9, c.is), countAt(2, 0, c.bit)},
			plainRow{"the second toggle", withCell(tree, 10, c.was), countAt(1, 1, 9), withCell(tree, 10, c.is), countAt(2, 1, c.bit)},
		)
	}
	for less := range 9 {
		v := impl.MaxWord - less
		is := v + 4
		if less < 4 {
			is = v
		}
		for leaf, regs := range [4][2]int{{0, 0}, {1, 0}, {0, 1}, {1, 1}} {
			was := withCell(emptyTree(), 11+leaf, v)
			wantTree(t, plainRow{fmt.Sprint("a leaf of ", v), was, countAt(2, regs[0], regs[1]),
				withCell(was, 11+leaf, is), ended(1, impl.OK, v)})
		}
	}
}

// The toggle of a number is so many cells behind the first one, as far as that is there.
func TestCountTogglesOfOtherNumbers(t *testing.T) {
	tree := treeOf(5, 0, 0, 40, 51, 60, 71)
	wantTree(t,
		plainRow{"2 is the first leaf", tree, countAt(1, 2, 9), withCell(tree, 11, 41), countAt(2, 2, 0)},
		plainRow{"5 is the last leaf", tree, countAt(1, 5, 9), withCell(tree, 14, 72), countAt(2, 5, 1)},
		plainRow{"-1 is the root", tree, countAt(1, -1, 9), withCell(tree, 8, 6), countAt(2, -1, 1)},
		plainRow{"-2 is the stack's top", tree, countAt(1, -2, 9), withCell(tree, 7, 1), countAt(2, -2, 0)},
		plainRow{"-8 is the head", withCell(tree, 1, 13), countAt(1, -8, 9), withCell(tree, 1, 14), countAt(2, -8, 1)},
		plainRow{"-9 is cell 0, which is not to be had", tree, countAt(1, -9, 9), tree, countAt(2, -9, 0)},
	)
	for _, far := range []int{6, 7, 390, 391, 400, 1000, impl.MaxWord - 9, impl.MaxWord, -10, -11, -400, -impl.MaxWord} {
		wantTree(t, plainRow{fmt.Sprint("not there: ", far), tree, countAt(1, far, 9, 3, 4, 5), tree, countAt(2, far, 0, 3, 4, 5)})
	}
	full := fullQueue(tree, 0)
	full[399] = 7
	wantTree(t,
		plainRow{"390 is the last cell", full, countAt(1, 390, 9), withCell(full, 399, 8), countAt(2, 390, 1)},
		plainRow{"391 is not there", full, countAt(1, 391, 9), full, countAt(2, 391, 0)},
	)
}

// The leaf is LeafOf's number, which is 0 where one of the registers is below 0.
func TestCountLeavesOfOtherNumbers(t *testing.T) {
	tree := treeOf(5, 6, 7, 40, 50, 60, 70)
	for _, c := range []struct{ first, second, leaf int }{
		{2, 0, 0}, {3, 0, 1}, {0, 2, 0}, {0, 3, 2}, {2, 3, 2}, {3, 2, 1}, {7, 9, 3}, {400, 400, 0}, {401, 401, 3},
		{impl.MaxWord, impl.MaxWord, 0}, {impl.MaxWord - 1, impl.MaxWord, 1}, {impl.MaxWord, impl.MaxWord - 1, 2},
		{-1, 0, 0}, {0, -1, 0}, {-1, -1, 0}, {1, -1, 0}, {-1, 1, 0}, {-2, 3, 0}, {3, -2, 0},
		{-impl.MaxWord, 1, 0}, {1, -impl.MaxWord, 0}, {1 - impl.MaxWord, impl.MaxWord - 1, 0},
	} {
		for _, pc := range leafSteps() {
			wantTree(t, plainRow{fmt.Sprint("leaf of ", c.first, " and ", c.second, " at ", pc), tree, countAt(pc, c.first, c.second),
				withCell(tree, 11+c.leaf, 44+10*c.leaf), ended(1, impl.OK, 40+10*c.leaf)})
		}
	}
}

// Six cells are enough for a step. What is not there is 0, and nothing is written to it.
func TestCountsWithoutATree(t *testing.T) {
	whole := withCell(treeOf(7, 7, 7, 7, 7, 7, 7), 7, 7)
	for n := 6; n <= 15; n++ {
		cells := whole[:n]
		load := func(at int) (int, []int) {
			if at >= n {
				return 0, cells
			}
			return 7, withCell(cells, at, 8)
		}
		root, is := load(8)
		wantTree(t, plainRow{fmt.Sprint("the root of cells: ", n), cells, countAt(0, 9, 9), is, countAt(1, root%2, 9)})
		for number := range 2 {
			toggle, is := load(9 + number)
			wantTree(t, plainRow{fmt.Sprint("a toggle of cells: ", n), cells, countAt(1, number, 9), is, countAt(2, number, toggle%2)})
		}
		for leaf := range 4 {
			told, is := load(11 + leaf)
			if told != 0 {
				is[11+leaf] = 11
			}
			for _, pc := range leafSteps() {
				wantTree(t, plainRow{fmt.Sprint("a leaf of cells: ", n), cells, countAt(pc, leaf%2, leaf/2), is, ended(1, impl.OK, told)})
			}
		}
	}
}

// A count does not wait, so neither a permit nor a cancel counts; both are kept till the end.
func TestCountsDoNotGiveUp(t *testing.T) {
	for pc := range 17 {
		for _, x := range []impl.Thread{countAt(pc), countAt(pc, 1, 1), countAt(pc, 1, 0, 3, 4, 5)} {
			b, plain, code := impl.StepTree(arenaOf(emptyTree()...), x)
			wantCode(t, "StepTree", code, impl.OK)
			if plain.Status == impl.ThRuns {
				plain = withPermit(cancelled(plain), true)
			}
			wantTree(t, plainRow{fmt.Sprint("cancelled at ", pc), emptyTree(), withPermit(cancelled(x), true), b.Cells, plain})
		}
	}
}

func wantNoTreeStep(t *testing.T, what string, a impl.Arena, x impl.Thread, want int) {
	t.Helper()
	wantNoPlainStep(t, what, impl.StepTree, a, x, want)
}

// The faults in their order: of arena and thread, of the number of cells, of the call.
func TestTreeStepFaults(t *testing.T) {
	right, few := arenaOf(emptyTree()...), arenaOf(0, 6, 6, -1, 0)
	idle := ended(1, impl.OK, 3)
	for name, bad := range badArenas() {
		for pc := range 4 {
			wantNoTreeStep(t, "a bad arena, "+name, bad, countAt(pc), impl.ErrBad)
		}
		wantNoTreeStep(t, "a bad arena and an idle thread, "+name, bad, idle, impl.ErrBad)
	}
	for name, bad := range badThreads() {
		wantNoTreeStep(t, "a bad thread, "+name, right, bad, impl.ErrBad)
		wantNoTreeStep(t, "a bad thread and few cells, "+name, few, bad, impl.ErrBad)
	}
	for name, bad := range map[string]impl.Thread{
		"a count with an Arg":    running(1, impl.OpCount, 1, 0, [5]int{}),
		"a count with a time":    until(countAt(0), 1),
		"a count at 17":          countAt(17),
		"a count at -1":          countAt(-1),
		"a register above":       countAt(1, impl.MaxWord+1),
		"a register below":       countAt(2, 0, -impl.MaxWord-1),
		"a count that is parked": parkedAt(countAt(0)),
	} {
		wantNoTreeStep(t, name, right, bad, impl.ErrBad)
	}
	for n := 1; n < 6; n++ {
		a := impl.Arena{Cells: make([]int, n)}
		for pc := range 17 {
			wantNoTreeStep(t, "few cells", a, countAt(pc), impl.ErrRange)
		}
		wantNoTreeStep(t, "few cells and an idle thread", a, idle, impl.ErrRange)
		wantNoTreeStep(t, "few cells and a put", a, putAt(0), impl.ErrRange)
	}
}

func TestTreeStepsOfNoCount(t *testing.T) {
	right := arenaOf(emptyTree()...)
	for _, x := range slices.Concat(idleThreads(), parkedThreads()) {
		wantNoTreeStep(t, "one that does not run", right, x, impl.ErrIdle)
	}
	seen := map[int]bool{}
	for _, x := range runningThreads() {
		seen[x.Op] = true
		if x.Op == impl.OpCount {
			_, _, code := impl.StepTree(right, x)
			wantCode(t, "StepTree of a count", code, impl.OK)
			wantNoStep(t, "count", impl.StepQueue, right, x, 0, impl.ErrIdle)
			wantNoStep(t, "count", impl.StepSwap, right, x, 0, impl.ErrIdle)
			wantNoStackStep(t, "count", right, x, impl.ErrIdle)
			continue
		}
		wantNoTreeStep(t, "another call", right, x, impl.ErrIdle)
	}
	if len(seen) != 6 {
		t.Error("not every call was tried:", seen)
	}
}

func TestTreeCount(t *testing.T) {
	wantCount(t, "a new tree", emptyTree(), 0)
	for leaf := range 4 {
		for n := range 6 {
			wantCount(t, "one leaf alone", withCell(emptyTree(), 11+leaf, leaf+4*n), n)
		}
	}
	wantCount(t, "all leaves", treeOf(0, 0, 0, 4, 9, 14, 19), 1+2+3+4)
	wantCount(t, "neither root nor toggles count", treeOf(40, 50, 60, 4, 1, 2, 3), 1)
	wantCount(t, "the cells ahead and behind do not count", append(withCell(treeOf(0, 0, 0, 4, 5, 2, 3), 7, 80), 40, 50), 2)
	// What one leaf has over is not added to what another one has over.
	wantCount(t, "rounded leaf by leaf", treeOf(0, 0, 0, 3, 4, 5, 6), 0)
	wantCount(t, "rounded leaf by leaf", treeOf(0, 0, 0, 7, 8, 9, 10), 4)
	for _, v := range []int{impl.MaxWord, impl.MaxWord - 1} {
		wantCount(t, "the greatest", treeOf(0, 0, 0, v, v, v, v), v/4+(v-1)/4+(v-2)/4+(v-3)/4)
	}
}

// Towards 0, so a leaf counts below 0 only from four below its own number on.
func TestTreeCountBelowItsOwnNumbers(t *testing.T) {
	for leaf := range 4 {
		for below, want := range map[int]int{
			1: 0, 2: 0, 3: 0, 4: -1, 5: -1, 7: -1, 8: -2, 11: -2, 12: -3, 400: -100, 403: -100, impl.MaxWord: -impl.MaxWord / 4,
		} {
			cells := withCell(emptyTree(), 11+leaf, leaf-below)
			wantCount(t, fmt.Sprint("leaf ", leaf, " below by ", below), cells, want)
			other := 11 + (leaf+1)%4
			wantCount(t, "beside one that is above", withCell(cells, other, cells[other]+20), want+5)
		}
	}
	wantCount(t, "all at 0", treeOf(0, 0, 0, 0, 0, 0, 0), 0)
	wantCount(t, "all at -1", treeOf(0, 0, 0, -1, -1, -1, -1), -1)
	wantCount(t, "all at the least", treeOf(0, 0, 0, -impl.MaxWord, -impl.MaxWord, -impl.MaxWord, -impl.MaxWord), -impl.MaxWord)
}

// Leaves that are not there are 0, which is nothing for every leaf.
func TestTreeCountOfOtherArenas(t *testing.T) {
	whole := treeOf(40, 40, 40, 8, 9, 10, 11)
	for n := 1; n <= 15; n++ {
		wantCount(t, fmt.Sprint("cells: ", n), whole[:n], 2*max(0, n-11))
		wantCount(t, fmt.Sprint("cells of 0: ", n), make([]int, n), 0)
	}
	wantCount(t, "the greatest arena", fullQueue(whole, 0), 8)
	for name, bad := range badArenas() {
		n, code := impl.TreeCount(bad)
		wantCode(t, "TreeCount of "+name, code, impl.ErrBad)
		if n != 0 {
			t.Errorf("TreeCount of %s: %d with a code", name, n)
		}
	}
	n, code := impl.TreeCount(arenaOf(withCell(whole, 12, impl.MaxWord+1)...))
	wantCode(t, "TreeCount of a leaf above", code, impl.ErrBad)
	if n != 0 {
		t.Error("not all is zero:", n)
	}
}
