package tests

import (
	"fmt"
	"math"
	"slices"
	"testing"

	"loop.example/g00624/impl"
)

// stepCall is StepQueue, or another call like it.
type stepCall func(impl.Arena, impl.Thread, int) (impl.Arena, impl.Thread, int, int)

// stepRow is one step: what it is given, and all that it is to answer.
type stepRow struct {
	name   string
	cells  []int
	thread impl.Thread
	now    int
	want   []int
	then   impl.Thread
	wakes  int
}

// emptyQueue is what InitQueue answers.
func emptyQueue() []int { return []int{0, 6, 6, impl.Gone, 0, 0} }

// putWaits is a queue in which thread 0 waits with the value 5.
func putWaits() []int { return []int{0, 6, 13, impl.Gone, 13, 0, 6, 0, 1} }

// takeWaits is a queue in which thread 1 waits for a value.
func takeWaits() []int { return []int{0, 6, 12, impl.Gone, 12, 0, 0, 0, 2} }

func fullQueue(cells []int, room int) []int {
	return append(slices.Clone(cells), make([]int, impl.MaxCells-room-len(cells))...)
}

// withCell is a copy with another number in one cell.
func withCell(cells []int, at, v int) []int {
	out := slices.Clone(cells)
	out[at] = v
	return out
}

func running(id, op, arg, pc int, regs [5]int) impl.Thread {
	return impl.Thread{Id: id, Status: impl.ThRuns, Op: op, Arg: arg, Pc: pc, Regs: regs}
}

// putAt is a put of 7 by thread 2.
func putAt(pc int, regs ...int) impl.Thread { return running(2, impl.OpPut, 7, pc, five(regs)) }

// takeAt is a take by thread 3.
func takeAt(pc int, regs ...int) impl.Thread { return running(3, impl.OpTake, 0, pc, five(regs)) }

func five(regs []int) (out [5]int) {
	copy(out[:], regs)
	return out
}

func ended(id, code, result int) impl.Thread {
	return impl.Thread{Id: id, Code: code, Result: result}
}

func until(x impl.Thread, time int) impl.Thread {
	x.Until = time
	return x
}

func cancelled(x impl.Thread) impl.Thread {
	x.Cancel = true
	return x
}

func wantRows(t *testing.T, rows []stepRow) {
	t.Helper()
	wantSteps(t, impl.StepQueue, rows)
}

func wantSteps(t *testing.T, step stepCall, rows []stepRow) {
	t.Helper()
	for _, r := range rows {
		if !impl.ThreadOK(r.thread) || !impl.ArenaOK(arenaOf(r.cells...)) {
			t.Errorf("%s: the row itself is not right", r.name)
		}
		b, y, wakes, code := step(arenaOf(r.cells...), r.thread, r.now)
		wantCode(t, r.name, code, impl.OK)
		wantCells(t, r.name, b, r.want...)
		wantThread(t, r.name, y, r.then)
		if wakes != r.wakes {
			t.Errorf("%s: wakes %d, want %d", r.name, wakes, r.wakes)
		}
	}
}

func TestQueueConstants(t *testing.T) {
	got := [4]int{impl.QueueHead, impl.QueueTail, impl.FirstNode, impl.Gone}
	if got != [4]int{1, 2, 3, -1} {
		t.Error("constants:", got)
	}
}

func TestNodeRefAndBack(t *testing.T) {
	for at := 1; at < impl.MaxCells; at++ {
		for bit, data := range []bool{false, true} {
			ref, code := impl.NodeRef(at, data)
			wantCode(t, "NodeRef", code, impl.OK)
			if ref != 2*at+bit {
				t.Errorf("NodeRef of %d, %v is %d", at, data, ref)
			}
			back, kind, code := impl.NodeAt(ref)
			wantCode(t, "NodeAt", code, impl.OK)
			if back != at || kind != data {
				t.Errorf("NodeAt of %d is %d, %v", ref, back, kind)
			}
		}
	}
}

func TestReferencesThatAreNone(t *testing.T) {
	for _, at := range append([]int{-399, -2, -1, 0, 400, 401, 800}, farNumbers...) {
		for _, data := range []bool{false, true} {
			ref, code := impl.NodeRef(at, data)
			wantCode(t, fmt.Sprint("NodeRef of ", at), code, impl.ErrRange)
			if ref != 0 {
				t.Error("NodeRef with a code:", at, ref)
			}
		}
	}
	for _, ref := range append([]int{-799, -13, -12, -3, -2, -1, 0, 1, 800, 801, 802}, farNumbers...) {
		at, data, code := impl.NodeAt(ref)
		wantCode(t, fmt.Sprint("NodeAt of ", ref), code, impl.ErrRange)
		if at != 0 || data {
			t.Error("NodeAt with a code:", ref, at, data)
		}
	}
}

func TestItemWaits(t *testing.T) {
	rows := []struct {
		item          int
		brings, asked bool
	}{
		{0, false, true}, {1, true, false}, {2, true, false}, {1000, true, false}, {impl.MaxWord, true, false},
		{math.MaxInt, true, false}, {impl.Gone, false, false}, {-2, false, false}, {-impl.MaxWord, false, false}, {math.MinInt, false, false},
	}
	for _, r := range rows {
		if impl.ItemWaits(true, r.item) != r.brings || impl.ItemWaits(false, r.item) != r.asked {
			t.Error("ItemWaits of", r.item, impl.ItemWaits(true, r.item), impl.ItemWaits(false, r.item))
		}
	}
}

func TestInitQueue(t *testing.T) {
	a, code := impl.InitQueue(impl.NewArena())
	wantCode(t, "InitQueue", code, impl.OK)
	wantCells(t, "InitQueue", a, 0, 6, 6, -1, 0, 0)
	if !impl.ArenaOK(a) {
		t.Error("not right:", a)
	}
	for _, n := range []int{2, 5, 6, 7, impl.MaxCells - 4, impl.MaxCells} {
		b, code := impl.InitQueue(impl.Arena{Cells: make([]int, n)})
		wantCode(t, fmt.Sprint("InitQueue of cells: ", n), code, impl.ErrSize)
		wantCells(t, "InitQueue", b)
	}
	for name, bad := range badArenas() {
		b, code := impl.InitQueue(bad)
		wantCode(t, "InitQueue of "+name, code, impl.ErrBad)
		wantCells(t, "InitQueue of "+name, b)
	}
}

// Who joins: Pc 0 to 5, and 8.
func TestQueueJoins(t *testing.T) {
	empty, puts, takes := emptyQueue(), putWaits(), takeWaits()
	lags := withCell(puts, 2, 6)
	linked := []int{0, 6, 13, -1, 13, 0, 6, 15, 1}
	wantRows(t, []stepRow{
		{"0 of a put", puts, putAt(0, 1, 2, 3, 4, 5), 0, puts, putAt(1, 13, 2, 3, 4, 5), -1},
		{"0 of a take", empty, takeAt(0), 0, empty, takeAt(1, 6), -1},
		{"1, empty, put", empty, putAt(1, 6), 0, empty, putAt(2, 6, 6), -1},
		{"1, empty, take", empty, takeAt(1, 6), 0, empty, takeAt(2, 6, 6), -1},
		{"1, puts wait, put", puts, putAt(1, 13, 9, 8), 0, puts, putAt(2, 13, 6, 8), -1},
		{"1, puts wait, take", puts, takeAt(1, 13, 9, 8), 0, puts, takeAt(6, 13, 6, 8), -1},
		{"1, takes wait, put", takes, putAt(1, 12), 0, takes, putAt(6, 12, 6), -1},
		{"1, takes wait, take", takes, takeAt(1, 12), 0, takes, takeAt(2, 12, 6), -1},
		{"2 without a node", empty, putAt(2, 6, 6, 9), 0, empty, putAt(4, 6, 6, 0), -1},
		{"2 with a node", empty, putAt(2, 6, 6, 9, 17), 0, empty, putAt(5, 6, 6, 0, 17), -1},
		{"2 by a tail that lags", lags, takeAt(2, 6, 6), 0, lags, takeAt(3, 6, 6, 13), -1},
		{"3 moves the tail", lags, takeAt(3, 6, 6, 13), 0, puts, takeAt(0, 6, 6, 13), -1},
		{"3 of a tail that was moved", puts, takeAt(3, 6, 6, 15), 0, puts, takeAt(0, 6, 6, 15), -1},
		{"4 of a put", empty, putAt(4, 6, 6), 0, []int{0, 6, 6, -1, 0, 0, 8, 0, 3}, putAt(5, 6, 6, 0, 13), -1},
		{"4 of a take", puts, takeAt(4, 13, 6), 0, append(putWaits(), 0, 0, 4), takeAt(5, 13, 6, 0, 18), -1},
		{"5 links", puts, putAt(5, 13, 6, 0, 15), 0, linked, putAt(8, 13, 6, 0, 15), -1},
		{"5 of one that was linked", linked, putAt(5, 13, 6, 0, 19), 0, linked, putAt(0, 13, 6, 0, 19), -1},
		{"8 moves the tail", lags, putAt(8, 6, 6, 0, 13), 0, puts, putAt(9, 6, 6, 0, 13), -1},
		{"8 of a tail that was moved", puts, putAt(8, 6, 6, 0, 15), 0, puts, putAt(9, 6, 6, 0, 15), -1},
	})
}

// The least and the greatest value, and every thread.
func TestQueueNewNodes(t *testing.T) {
	for id := range 4 {
		for _, arg := range []int{0, 1, 998, 999} {
			x := running(id, impl.OpPut, arg, 4, [5]int{})
			then := running(id, impl.OpPut, arg, 5, [5]int{0, 0, 0, 13})
			wantRows(t, []stepRow{{fmt.Sprint("put of ", arg), emptyQueue(), x, 0, append(emptyQueue(), arg+1, 0, id+1), then, -1}})
		}
		x := running(id, impl.OpTake, 0, 4, [5]int{})
		then := running(id, impl.OpTake, 0, 5, [5]int{0, 0, 0, 12})
		wantRows(t, []stepRow{{"take", emptyQueue(), x, 0, append(emptyQueue(), 0, 0, id+1), then, -1}})
	}
}

func TestQueueWithoutRoom(t *testing.T) {
	for room := range 3 {
		cells := fullQueue(emptyQueue(), room)
		wantRows(t, []stepRow{
			{"put without room", cells, until(putAt(4, 6, 6), 9), 9, cells, ended(2, impl.ErrFull, 0), -1},
			{"take without room", cells, cancelled(takeAt(4, 6, 6)), 0, cells, ended(3, impl.ErrFull, 0), -1},
		})
	}
	last := fullQueue(emptyQueue(), 3)
	wantRows(t, []stepRow{
		{"the last node", last, takeAt(4, 6, 6), 0, append(slices.Clone(last), 0, 0, 4), takeAt(5, 6, 6, 0, 794), -1},
		{"the last node of a put", last, putAt(4, 6, 6), 0, append(slices.Clone(last), 8, 0, 3), putAt(5, 6, 6, 0, 795), -1},
	})
}

// Who waits: Pc 9 to 11.
func TestQueueWaits(t *testing.T) {
	puts := []int{0, 6, 13, -1, 13, 0, 8, 0, 3}
	takes := []int{0, 6, 12, -1, 12, 0, 0, 0, 4}
	taken, given := withCell(puts, 6, 0), withCell(takes, 6, 6)
	gone, left := withCell(puts, 6, -1), withCell(takes, 6, -1)
	parked := func(x impl.Thread) impl.Thread { return withStatus(x, impl.ThParked) }
	wantRows(t, []stepRow{
		{"9 parks a put", puts, putAt(9, 6, 6, 0, 13, 99), 0, puts, parked(putAt(9, 6, 6, 0, 13, 8)), -1},
		{"9 parks a take", takes, takeAt(9, 6, 6, 0, 12, 99), 0, takes, parked(takeAt(9, 6, 6, 0, 12, 0)), -1},
		{"9 with a Permit", takes, withPermit(takeAt(9, 6, 6, 0, 12), true), 0, takes, takeAt(9, 6, 6, 0, 12), -1},
		{"9 ahead of its time", puts, until(putAt(9, 6, 6, 0, 13), 9), 8, puts, parked(until(putAt(9, 6, 6, 0, 13, 8), 9)), -1},
		{"9 at its time", puts, until(putAt(9, 6, 6, 0, 13), 9), 9, puts, until(putAt(10, 6, 6, 0, 13, 8), 9), -1},
		{"9 cancelled", takes, cancelled(takeAt(9, 6, 6, 0, 12)), 0, takes, cancelled(takeAt(10, 6, 6, 0, 12)), -1},
		{"9 at its time with a Permit", puts, withPermit(until(putAt(9, 6, 6, 0, 13), 9), true), 9, puts, withPermit(until(putAt(10, 6, 6, 0, 13, 8), 9), true), -1},
		{"9 of a put that was taken", taken, putAt(9, 6, 6, 0, 13, 8), 0, taken, putAt(11, 6, 6, 0, 13, 0), -1},
		{"9 of a take that was given to", given, takeAt(9, 6, 6, 0, 12), 0, given, takeAt(11, 6, 6, 0, 12, 6), -1},
		{"9 served at its time", given, until(takeAt(9, 6, 6, 0, 12), 9), 9, given, until(takeAt(11, 6, 6, 0, 12, 6), 9), -1},
		{"9 served and cancelled", taken, cancelled(putAt(9, 6, 6, 0, 13)), 9, taken, cancelled(putAt(11, 6, 6, 0, 13)), -1},
		{"9 of one that is Gone", gone, putAt(9, 6, 6, 0, 13), 0, gone, putAt(11, 6, 6, 0, 13, -1), -1},
		{"10 of a put, its time over", puts, until(putAt(10, 6, 6, 0, 13, 8), 9), 9, gone, ended(2, impl.ErrTimeout, 0), -1},
		{"10 of a take, cancelled", takes, cancelled(takeAt(10, 6, 6, 0, 12)), 0, left, ended(3, impl.ErrCancelled, 0), -1},
		{"10, cancelled at its time", takes, until(cancelled(takeAt(10, 6, 6, 0, 12)), 9), 9, left, ended(3, impl.ErrCancelled, 0), -1},
		{"10 does not ask for the time", puts, putAt(10, 6, 6, 0, 13, 8), 0, gone, ended(2, impl.ErrTimeout, 0), -1},
		{"10 of a put that was taken", taken, cancelled(putAt(10, 6, 6, 0, 13, 8)), 0, taken, cancelled(putAt(9, 6, 6, 0, 13, 8)), -1},
		{"10 of a take that was given to", given, until(takeAt(10, 6, 6, 0, 12), 1), 5, given, until(takeAt(9, 6, 6, 0, 12), 1), -1},
		{"11 of a put", taken, putAt(11, 6, 6, 0, 13, 0), 0, withCell(taken, 1, 13), ended(2, 0, 7), -1},
		{"11 of a take", given, takeAt(11, 6, 6, 0, 12, 6), 0, withCell(given, 1, 12), ended(3, 0, 5), -1},
		{"11 of a head that was moved", withCell(given, 1, 12), cancelled(takeAt(11, 6, 6, 0, 12, 1000)), 0, withCell(given, 1, 12), ended(3, 0, 999), -1},
	})
}

// To give up at step 2 comes behind a tail that lags, and ahead of a node.
func TestQueueGivesUpAheadOfItsNode(t *testing.T) {
	empty := emptyQueue()
	lags := withCell(putWaits(), 2, 6)
	wantRows(t, []stepRow{
		{"ahead of its time", empty, until(putAt(2, 6, 6), 9), 8, empty, until(putAt(4, 6, 6), 9), -1},
		{"at its time", empty, until(putAt(2, 6, 6), 9), 9, empty, ended(2, impl.ErrTimeout, 0), -1},
		{"at its time with a node", empty, until(takeAt(2, 6, 6, 0, 12), 9), 10, empty, ended(3, impl.ErrTimeout, 0), -1},
		{"cancelled", empty, cancelled(takeAt(2, 6, 6)), 0, empty, ended(3, impl.ErrCancelled, 0), -1},
		{"cancelled at its time", empty, until(cancelled(takeAt(2, 6, 6)), 1), 1, empty, ended(3, impl.ErrCancelled, 0), -1},
		{"cancelled, by a tail that lags", lags, cancelled(putAt(2, 6, 6)), 0, lags, cancelled(putAt(3, 6, 6, 13)), -1},
		{"at the last time", empty, until(putAt(2, 6, 6), 1000000), 1000000, empty, ended(2, impl.ErrTimeout, 0), -1},
		{"never", empty, putAt(2, 6, 6), 1000000, empty, putAt(4, 6, 6), -1},
	})
}

// A call that has somebody to meet, or goes on from a step that does not ask, does not give up.
func TestQueueGivesUpNowhereElse(t *testing.T) {
	for pc := range 17 {
		if pc == 2 || pc == 9 || pc == 10 {
			continue
		}
		for _, x := range []impl.Thread{putAt(pc, 13, 6, 13, 13, 6), takeAt(pc, 13, 6, 13, 13, 6)} {
			_, plain, _, code := impl.StepQueue(arenaOf(putWaits()...), x, 9)
			wantCode(t, "StepQueue", code, impl.OK)
			_, over, _, code := impl.StepQueue(arenaOf(putWaits()...), until(cancelled(x), 9), 9)
			wantCode(t, "StepQueue", code, impl.OK)
			if plain.Status == impl.ThRuns {
				plain = until(cancelled(plain), 9)
			}
			wantThread(t, fmt.Sprint("given up at ", pc), over, plain)
		}
	}
}

// Who serves: Pc 6, 7 and 12 to 16.
func TestQueueServes(t *testing.T) {
	empty, puts, takes := emptyQueue(), putWaits(), takeWaits()
	taken, given := withCell(puts, 6, 0), withCell(takes, 6, 8)
	gone := withCell(puts, 6, -1)
	wantRows(t, []stepRow{
		{"6 of a take", puts, takeAt(6, 13, 6, 9), 0, puts, takeAt(7, 13, 6, 13), -1},
		{"6 of none", empty, putAt(6, 12, 6, 9), 0, empty, putAt(0, 12, 6, 0), -1},
		{"7 of a take, a put waits", puts, takeAt(7, 13, 6, 13), 0, puts, takeAt(13, 13, 6, 13, 0, 6), -1},
		{"7 of a take, it was taken", taken, takeAt(7, 13, 6, 13, 0, 9), 0, taken, takeAt(12, 13, 6, 13, 0, 0), -1},
		{"7 of a take, it is Gone", gone, takeAt(7, 13, 6, 13), 0, gone, takeAt(12, 13, 6, 13, 0, -1), -1},
		{"7 of a put, a take waits", takes, putAt(7, 12, 6, 12, 0, 9), 0, takes, putAt(13, 12, 6, 12, 0, 0), -1},
		{"7 of a put, it was given to", given, putAt(7, 12, 6, 12), 0, given, putAt(12, 12, 6, 12, 0, 8), -1},
		{"7 of a put, it is Gone", withCell(takes, 6, -1), putAt(7, 12, 6, 12), 0, withCell(takes, 6, -1), putAt(12, 12, 6, 12, 0, -1), -1},
		{"7 of a put, a put waits", puts, putAt(7, 13, 6, 13), 0, puts, putAt(12, 13, 6, 13, 0, 6), -1},
		{"7 of a take, a take waits", takes, takeAt(7, 12, 6, 12), 0, takes, takeAt(12, 12, 6, 12), -1},
		{"12 moves the head", gone, takeAt(12, 13, 6, 13, 0, -1), 0, withCell(gone, 1, 13), takeAt(0, 13, 6, 13, 0, -1), -1},
		{"12 of a head that was moved", gone, takeAt(12, 13, 8, 13), 0, gone, takeAt(0, 13, 8, 13), -1},
		{"13 of a take", puts, takeAt(13, 13, 6, 13, 0, 6), 0, taken, takeAt(14, 13, 6, 13, 0, 6), -1},
		{"13 of a put", takes, putAt(13, 12, 6, 12, 0, 0), 0, given, putAt(14, 12, 6, 12, 0, 0), -1},
		{"13 too late", taken, takeAt(13, 13, 6, 13, 0, 6), 0, taken, takeAt(12, 13, 6, 13, 0, 6), -1},
		{"13 of one that has left", gone, takeAt(13, 13, 6, 13, 0, 6), 0, gone, takeAt(12, 13, 6, 13, 0, 6), -1},
		{"14 moves the head", taken, takeAt(14, 13, 6, 13, 0, 6), 0, withCell(taken, 1, 13), takeAt(15, 13, 6, 13, 0, 6), -1},
		{"14 of a head that was moved", withCell(taken, 1, 13), takeAt(14, 13, 6, 13, 0, 6), 0, withCell(taken, 1, 13), takeAt(15, 13, 6, 13, 0, 6), -1},
		{"15 of a take", taken, takeAt(15, 13, 6, 13, 0, 6), 0, taken, ended(3, 0, 5), 0},
		{"15 of a put", given, putAt(15, 12, 6, 12, 0, 0), 0, given, ended(2, 0, 7), 1},
		{"16 of a take", taken, takeAt(16, 13, 6, 13, 0, 1), 0, taken, ended(3, 0, 0), 0},
		{"16 of a put", given, cancelled(putAt(16, 12, 6, 12, 0, 0)), 0, given, ended(2, 0, 7), 1},
		{"15 of nobody's node", empty, takeAt(15, 6, 6, 6, 0, 1), 0, empty, ended(3, 0, 0), -1},
	})
}

// Cells that are not there are loaded as 0.
func TestQueueLoadsWhatIsNotThere(t *testing.T) {
	cells := putWaits()
	for _, far := range []int{18, 20, 400, 800, impl.MaxWord, -4, -6, -400, -impl.MaxWord} {
		wantRows(t, []stepRow{
			{fmt.Sprint("2 of ", far), cells, putAt(2, far, 6, 9), 0, cells, putAt(4, far, 6, 0), -1},
			{fmt.Sprint("6 of ", far), cells, takeAt(6, 0, far, 9), 0, cells, takeAt(0, 0, far, 0), -1},
			{fmt.Sprint("7 of ", far), cells, putAt(7, 0, 6, far, 0, 9), 0, cells, putAt(13, 0, 6, far), -1},
			{fmt.Sprint("9 of a put, ", far), cells, putAt(9, 0, 0, 0, far, 9), 0, cells, putAt(11, 0, 0, 0, far), -1},
			{fmt.Sprint("9 of a take, ", far), cells, takeAt(9, 0, 0, 0, far, 9), 0, cells, withStatus(takeAt(9, 0, 0, 0, far), impl.ThParked), -1},
		})
	}
	wantRows(t, []stepRow{
		{"the owner behind the last cell", cells, takeAt(15, 0, 0, 14, 0, 1), 0, cells, ended(3, 0, 0), -1},
		{"the owner ahead of the first one", cells, takeAt(15, 0, 0, -6, 0, 1), 0, cells, ended(3, 0, 0), -1},
		{"the owner far behind", cells, putAt(15, 0, 0, impl.MaxWord), 0, cells, ended(2, 0, 7), -1},
		{"the owner far ahead", cells, putAt(15, 0, 0, -impl.MaxWord), 0, cells, ended(2, 0, 7), -1},
		{"the item of none", cells, takeAt(7, 0, 0, 1, 0, 9), 0, cells, takeAt(12, 0, 0, 1), -1},
		{"next of none is the head's cell", cells, takeAt(2, 0, 0, 9), 0, cells, takeAt(3, 0, 0, 6), -1},
		{"next in the last cell", cells, takeAt(2, 14, 0, 9), 0, cells, takeAt(3, 14, 0, 1), -1},
	})
}

// A cell that is not there is 0, cell 0 too: a change of it from 0 is done, though nothing is written.
func TestQueueChangesFromNoughtOfWhatIsNotThere(t *testing.T) {
	cells := putWaits()
	// The last cell is 8. Halved, 18 is cell 9, and -2 and -3 are cell -1, whose next is cell 0.
	for _, far := range []int{18, 19, 400, 1000, impl.MaxWord, -2, -3, -4, -5, -impl.MaxWord} {
		wantRows(t, []stepRow{
			{fmt.Sprint("5 of a put, ", far), cells, putAt(5, far, 6, 0, 15), 0, cells, putAt(8, far, 6, 0, 15), -1},
			{fmt.Sprint("5 of a take, ", far), cells, takeAt(5, far, 6, 0, 18), 0, cells, takeAt(8, far, 6, 0, 18), -1},
			{fmt.Sprint("5 without a node, ", far), cells, takeAt(5, far, 6), 0, cells, takeAt(8, far, 6), -1},
		})
	}
	for _, far := range []int{-1, 0, 1, 18, 19, 400, 1000, impl.MaxWord, -2, -3, -4, -5, -impl.MaxWord} {
		wantRows(t, []stepRow{
			{fmt.Sprint("10, cancelled, ", far), cells, cancelled(takeAt(10, 6, 0, 0, far)), 0, cells, ended(3, impl.ErrCancelled, 0), -1},
			{fmt.Sprint("10, its time over, ", far), cells, until(takeAt(10, 6, 0, 0, far), 3), 4, cells, ended(3, impl.ErrTimeout, 0), -1},
			{fmt.Sprint("13 of a put, ", far), cells, putAt(13, 0, 6, far), 0, cells, putAt(14, 0, 6, far), -1},
			{fmt.Sprint("13 of a take, from 0 to 0, ", far), cells, takeAt(13, 0, 6, far), 0, cells, takeAt(14, 0, 6, far), -1},
		})
	}
}

// From any other number a change of a cell that is not there fails.
func TestQueueChangesFromOthersOfWhatIsNotThere(t *testing.T) {
	cells := putWaits()
	for _, far := range []int{-1, 0, 1, 18, 19, 400, 1000, impl.MaxWord, -2, -3, -4, -5, -impl.MaxWord} {
		wantRows(t, []stepRow{
			{fmt.Sprint("10 of a put, ", far), cells, cancelled(putAt(10, 0, 0, 0, far)), 0, cells, cancelled(putAt(9, 0, 0, 0, far)), -1},
		})
		for _, x := range []int{-impl.MaxWord, -1, 1, 7, impl.MaxWord} {
			wantRows(t, []stepRow{
				{fmt.Sprint("13 of a put, ", far, x), cells, putAt(13, 0, 6, far, 0, x), 0, cells, putAt(12, 0, 6, far, 0, x), -1},
				{fmt.Sprint("13 of a take, ", far, x), cells, takeAt(13, 0, 6, far, 0, x), 0, cells, takeAt(12, 0, 6, far, 0, x), -1},
			})
		}
	}
}

// The last cell is there, and the one behind it is not, though both are 0.
func TestQueueChangesAtTheLastCell(t *testing.T) {
	cells := withCell(putWaits(), 8, 0)
	wantRows(t, []stepRow{
		{"5 in the last cell", cells, putAt(5, 14, 6, 0, 15), 0, withCell(cells, 8, 15), putAt(8, 14, 6, 0, 15), -1},
		{"5 behind it", cells, putAt(5, 16, 6, 0, 15), 0, cells, putAt(8, 16, 6, 0, 15), -1},
		{"10 in the last cell", cells, cancelled(takeAt(10, 6, 0, 0, 16)), 0, withCell(cells, 8, -1), ended(3, impl.ErrCancelled, 0), -1},
		{"10 behind it", cells, cancelled(takeAt(10, 6, 0, 0, 18)), 0, cells, ended(3, impl.ErrCancelled, 0), -1},
		{"13 in the last cell", cells, putAt(13, 0, 6, 16), 0, withCell(cells, 8, 8), putAt(14, 0, 6, 16), -1},
		{"13 behind it", cells, putAt(13, 0, 6, 18), 0, cells, putAt(14, 0, 6, 18), -1},
		{"5 of none, whose next is the head, not 0", cells, putAt(5, 0, 6, 0, 15), 0, cells, putAt(0, 0, 6, 0, 15), -1},
	})
}

// Below 0 a register is halved towards 0; an odd one is of neither kind as T, and does not bring as N.
func TestQueueRegistersBelowNought(t *testing.T) {
	cells := putWaits()
	for _, odd := range []int{-1, -3, -13, -999999999} {
		wantRows(t, []stepRow{
			{fmt.Sprint("1 of a put, ", odd), cells, putAt(1, odd), 0, cells, putAt(6, odd, 6), -1},
			{fmt.Sprint("1 of a take, ", odd), cells, takeAt(1, odd), 0, cells, takeAt(6, odd, 6), -1},
			{fmt.Sprint("7 of a put, ", odd), cells, putAt(7, 0, 0, odd, 0, 9), 0, cells, putAt(13, 0, 0, odd), -1},
			{fmt.Sprint("7 of a take, ", odd), cells, takeAt(7, 0, 0, odd, 0, 9), 0, cells, takeAt(12, 0, 0, odd), -1},
		})
		alike := withCell(cells, 1, odd)
		wantRows(t, []stepRow{{fmt.Sprint("1 where the head is T, ", odd), alike, putAt(1, odd), 0, alike, putAt(2, odd, odd), -1}})
	}
	for _, even := range []int{-2, -4, -12, -impl.MaxWord} {
		wantRows(t, []stepRow{
			{fmt.Sprint("1 of a put, ", even), cells, putAt(1, even), 0, cells, putAt(6, even, 6), -1},
			{fmt.Sprint("1 of a take, ", even), cells, takeAt(1, even), 0, cells, takeAt(2, even, 6), -1},
			{fmt.Sprint("7 of a put, ", even), cells, putAt(7, 0, 0, even, 0, 9), 0, cells, putAt(13, 0, 0, even), -1},
			{fmt.Sprint("7 of a take, ", even), cells, takeAt(7, 0, 0, even, 0, 9), 0, cells, takeAt(12, 0, 0, even), -1},
		})
	}
	// Halved, -1 is 0 and -3 is -1: their nodes have the cells from 0 and from -1 on.
	wantRows(t, []stepRow{
		{"2 of -1", cells, takeAt(2, -1), 0, cells, takeAt(3, -1, 0, 6), -1},
		{"2 of -3", cells, takeAt(2, -3), 0, cells, takeAt(4, -3), -1},
		{"15 of -1", cells, putAt(15, 0, 0, -1), 0, cells, ended(2, 0, 7), 12},
		{"15 of -3", cells, putAt(15, 0, 0, -3), 0, cells, ended(2, 0, 7), 5},
		{"15 of -2", cells, putAt(15, 0, 0, -2), 0, cells, ended(2, 0, 7), 5},
		{"15 of -4", cells, putAt(15, 0, 0, -4), 0, cells, ended(2, 0, 7), -1},
		{"8 from below", withCell(cells, 2, -7), putAt(8, -7, 0, 0, 13), 0, cells, putAt(9, -7, 0, 0, 13), -1},
	})
}

// Of a take the result is X - 1, whatever X is; of a put it is Arg.
func TestQueueResults(t *testing.T) {
	cells := emptyQueue()
	for _, pc := range []int{11, 15, 16} {
		for _, x := range []int{-impl.MaxWord, -1, 0, 1, 2, 1000, impl.MaxWord} {
			wantRows(t, []stepRow{
				{fmt.Sprint("take at ", pc), cells, takeAt(pc, 0, 0, 20, 20, x), 0, cells, ended(3, 0, x-1), -1},
				{fmt.Sprint("put at ", pc), cells, putAt(pc, 0, 0, 20, 20, x), 0, cells, ended(2, 0, 7), -1},
			})
		}
	}
}

func wantNoStep(t *testing.T, what string, step stepCall, a impl.Arena, x impl.Thread, now, want int) {
	t.Helper()
	b, y, wakes, code := step(a, x, now)
	wantCode(t, what, code, want)
	wantCells(t, what, b)
	wantThread(t, what, y, impl.Thread{})
	if wakes != 0 {
		t.Errorf("%s: wakes %d with a code", what, wakes)
	}
}

// The faults in their order: of arena and thread, of the number of cells and of now, of the call.
func TestQueueStepFaults(t *testing.T) {
	right, few := arenaOf(putWaits()...), arenaOf(0, 6, 6, -1, 0)
	idle := ended(1, 12, 0)
	for name, bad := range badArenas() {
		for _, now := range []int{-1, 0, 1000001} {
			wantNoStep(t, "a bad arena, "+name, impl.StepQueue, bad, putAt(0), now, impl.ErrBad)
			wantNoStep(t, "a bad arena and an idle thread, "+name, impl.StepQueue, bad, idle, now, impl.ErrBad)
		}
	}
	for name, bad := range badThreads() {
		wantNoStep(t, "a bad thread, "+name, impl.StepQueue, right, bad, 0, impl.ErrBad)
		wantNoStep(t, "a bad thread and few cells, "+name, impl.StepQueue, few, bad, -1, impl.ErrBad)
	}
	for n := 1; n < 6; n++ {
		a := impl.Arena{Cells: make([]int, n)}
		wantNoStep(t, "few cells", impl.StepQueue, a, takeAt(0), 0, impl.ErrRange)
		wantNoStep(t, "few cells and an idle thread", impl.StepQueue, a, idle, 0, impl.ErrRange)
	}
	for _, now := range timesOut {
		wantNoStep(t, fmt.Sprint("at ", now), impl.StepQueue, right, putAt(0), now, impl.ErrRange)
		wantNoStep(t, fmt.Sprint("idle, at ", now), impl.StepQueue, right, idle, now, impl.ErrRange)
	}
	for _, now := range []int{0, 1, 999999, 1000000} {
		if _, _, _, code := impl.StepQueue(right, takeAt(0), now); code != impl.OK {
			t.Error("StepQueue at", now, "has code", code)
		}
	}
}

func TestQueueStepsOfNoPutOrTake(t *testing.T) {
	right := arenaOf(emptyQueue()...)
	for _, x := range slices.Concat(idleThreads(), parkedThreads()) {
		wantNoStep(t, "one that does not run", impl.StepQueue, right, x, 0, impl.ErrIdle)
	}
	seen := 0
	for _, x := range runningThreads() {
		if x.Op == impl.OpPut || x.Op == impl.OpTake {
			_, _, _, code := impl.StepQueue(right, x, 0)
			wantCode(t, "StepQueue of put or take", code, impl.OK)
			continue
		}
		seen++
		wantNoStep(t, "another call", impl.StepQueue, right, x, 0, impl.ErrIdle)
	}
	if seen == 0 {
		t.Error("no other call was tried")
	}
}

func wantWaiters(t *testing.T, what string, cells []int, owners ...int) {
	t.Helper()
	a := arenaOf(cells...)
	list, code := impl.QueueWaiters(a)
	wantCode(t, what, code, impl.OK)
	n, code := impl.QueueLength(a)
	wantCode(t, what, code, impl.OK)
	if !slices.Equal(list, owners) || n != len(owners) {
		t.Errorf("%s: waiters %v, length %d, want %v", what, list, n, owners)
	}
}

func wantHolds(t *testing.T, what string, cells []int, holds bool, want int) {
	t.Helper()
	got, code := impl.QueueHolds(arenaOf(cells...))
	wantCode(t, what, code, want)
	if got != holds {
		t.Errorf("%s: holds %v", what, got)
	}
}

func TestQueueWaiters(t *testing.T) {
	puts := []int{0, 6, 25, -1, 13, 0, 6, 19, 1, 8, 25, 3, 9, 0, 4}
	takes := []int{0, 6, 24, -1, 12, 0, 0, 18, 1, 0, 24, 3, 0, 0, 4}
	rows := []struct {
		name   string
		cells  []int
		owners []int
		holds  bool
	}{
		{"empty", emptyQueue(), nil, false},
		{"puts", puts, []int{0, 2, 3}, true},
		{"takes", takes, []int{0, 2, 3}, false},
		{"the first put was taken", withCell(puts, 6, 0), []int{2, 3}, true},
		{"the second put is Gone", withCell(puts, 9, -1), []int{0, 3}, true},
		{"the last take was given to", withCell(takes, 12, 5), []int{0, 2}, false},
		{"the first take is Gone", withCell(takes, 6, -1), []int{2, 3}, false},
		{"none waits any more", withCell(withCell(withCell(puts, 6, 0), 9, -1), 12, 0), nil, false},
		{"the head has moved", withCell(puts, 1, 13), []int{2, 3}, true},
		{"the head is the last one", withCell(takes, 1, 24), nil, false},
		{"the tail lags", withCell(puts, 2, 6), []int{0, 2, 3}, true},
		{"the tail is none", withCell(takes, 2, 0), []int{0, 2, 3}, false},
		{"the first one's item does not count", withCell(withCell(puts, 3, 0), 5, 2), []int{0, 2, 3}, true},
		{"a take ahead of puts", withCell(withCell(puts, 6, 0), 4, 12), []int{0, 2, 3}, false},
	}
	for _, r := range rows {
		wantWaiters(t, r.name, r.cells, r.owners...)
		code := impl.OK
		if len(r.owners) == 0 {
			code = impl.ErrNone
		}
		wantHolds(t, r.name, r.cells, r.holds, code)
	}
}

// Arenas that are right but are no queue.
func TestQueueWaitersOfOtherArenas(t *testing.T) {
	wantWaiters(t, "a new arena", []int{0})
	wantHolds(t, "a new arena", []int{0}, false, impl.ErrNone)
	wantWaiters(t, "the head alone", []int{0, 6})
	wantWaiters(t, "a head that is none", []int{0, 0, 0, 0, 0, 0})
	wantWaiters(t, "a head below 0", []int{0, -6, 0, 0, 0, 0})
	wantWaiters(t, "a head far away", []int{0, impl.MaxWord, 0, 0, 0, 0})
	wantWaiters(t, "a last node that is cut off", []int{0, 6, 6, -1, 13, 0, 6}, -1)
	wantWaiters(t, "a taker's node that is not there", []int{0, 6, 6, -1, 20, 0}, -1)
	wantWaiters(t, "a putter's node that is not there", []int{0, 6, 6, -1, 21, 0})
	wantWaiters(t, "a node ahead of the cells", []int{0, 6, 6, -1, -20, 0}, -1)
	wantHolds(t, "an odd node ahead of the cells", []int{0, 6, 6, -1, -21, 0}, false, impl.OK)
	wantWaiters(t, "an owner that is no thread", []int{0, 6, 13, -1, 13, 0, 6, 0, 500}, 499)
}

// Of a chain that does not end MaxCells nodes are looked at.
func TestQueueChainsThatDoNotEnd(t *testing.T) {
	ring := []int{0, 6, 13, -1, 13, 0, 6, 13, 3}
	wantWaiters(t, "a put behind itself", ring, slices.Repeat([]int{2}, impl.MaxCells)...)
	wantHolds(t, "a put behind itself", ring, true, impl.OK)
	wantWaiters(t, "one that was taken, behind itself", withCell(ring, 6, 0))
	wantHolds(t, "one that was taken, behind itself", withCell(ring, 6, 0), false, impl.ErrNone)
	two := []int{0, 6, 13, -1, 13, 0, 6, 19, 1, 8, 13, 2}
	wantWaiters(t, "two in a ring", two, slices.Repeat([]int{0, 1}, impl.MaxCells/2)...)
	wantWaiters(t, "two in a ring, one Gone", withCell(two, 6, -1), slices.Repeat([]int{1}, impl.MaxCells/2)...)
	odd := []int{0, 6, 12, -1, 12, 0, 0, 18, 1, 0, 24, 2, 0, 12, 3}
	wantWaiters(t, "three in a ring", odd, slices.Repeat([]int{0, 1, 2}, impl.MaxCells)[:impl.MaxCells]...)
	wantWaiters(t, "the head behind itself", []int{0, 6, 6, 0, 6, 4}, slices.Repeat([]int{3}, impl.MaxCells)...)
}

func TestQueueLooksRefuseBadArenas(t *testing.T) {
	for name, bad := range badArenas() {
		list, code := impl.QueueWaiters(bad)
		wantCode(t, "QueueWaiters of "+name, code, impl.ErrBad)
		n, code := impl.QueueLength(bad)
		wantCode(t, "QueueLength of "+name, code, impl.ErrBad)
		holds, code := impl.QueueHolds(bad)
		wantCode(t, "QueueHolds of "+name, code, impl.ErrBad)
		if len(list) != 0 || n != 0 || holds {
			t.Error("not all is zero:", name)
		}
	}
}
