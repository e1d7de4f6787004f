package tests

import (
	"fmt"
	"slices"
	"testing"

	"loop.example/g00624/impl"
)

// emptySwap is what InitSwap answers of a new queue.
func emptySwap() []int { return append(emptyQueue(), 0) }

// swapOffers is an arena in which thread 0 offers 5; its node is at 7.
func swapOffers() []int { return append(emptyQueue(), 7, 6, 0, 1) }

// ownOffer is one in which thread 2 offers 7; its node is at 7.
func ownOffer() []int { return append(emptyQueue(), 7, 8, 0, 3) }

// swapAt is a swap of 7 by thread 2.
func swapAt(pc int, regs ...int) impl.Thread { return running(2, impl.OpSwap, 7, pc, five(regs)) }

func wantSwaps(t *testing.T, rows ...stepRow) {
	t.Helper()
	wantSteps(t, impl.StepSwap, rows)
}

func parkedAt(x impl.Thread) impl.Thread { return withStatus(x, impl.ThParked) }

func TestInitSwap(t *testing.T) {
	if impl.SwapSlot != 6 {
		t.Error("SwapSlot:", impl.SwapSlot)
	}
	// What the six cells have does not count.
	for _, cells := range [][]int{emptyQueue(), make([]int, 6), {0, 13, 6, 9, -impl.MaxWord, impl.MaxWord}} {
		a, code := impl.InitSwap(arenaOf(cells...))
		wantCode(t, "InitSwap", code, impl.OK)
		wantCells(t, "InitSwap", a, append(slices.Clone(cells), 0)...)
		if !impl.ArenaOK(a) {
			t.Error("not right:", a)
		}
	}
	for _, n := range []int{1, 2, 5, 7, 8, 12, impl.MaxCells - 1, impl.MaxCells} {
		b, code := impl.InitSwap(impl.Arena{Cells: make([]int, n)})
		wantCode(t, fmt.Sprint("InitSwap of cells: ", n), code, impl.ErrSize)
		wantCells(t, "InitSwap", b)
	}
	for name, bad := range badArenas() {
		b, code := impl.InitSwap(bad)
		wantCode(t, "InitSwap of "+name, code, impl.ErrBad)
		wantCells(t, "InitSwap of "+name, b)
	}
	b, code := impl.InitSwap(arenaOf(1, 0, 0, 0, 0, 0))
	wantCode(t, "InitSwap of six cells that are not right", code, impl.ErrBad)
	wantCells(t, "InitSwap", b)
}

// Who offers: Pc 0 to 2.
func TestSwapOffers(t *testing.T) {
	empty, offers := emptySwap(), swapOffers()
	made := append(emptySwap(), 8, 0, 3)
	wantSwaps(t,
		stepRow{"0 of an empty slot", empty, swapAt(0), 0, empty, swapAt(1), -1},
		stepRow{"0 forgets an old T", empty, swapAt(0, 9, 0, 4, 5, 6), 0, empty, swapAt(1, 0, 0, 4, 5, 6), -1},
		stepRow{"0 with a node", empty, swapAt(0, 9, 7, 4), 0, empty, swapAt(2, 0, 7, 4), -1},
		stepRow{"0 of a slot that is taken", offers, swapAt(0, 0, 0, 4, 5, 6), 0, offers, swapAt(5, 7, 0, 4, 5, 6), -1},
		stepRow{"0 with a node, of a slot that is taken", offers, swapAt(0, 0, 9), 0, offers, swapAt(5, 7, 9), -1},
		stepRow{"0 of its own node", ownOffer(), swapAt(0, 0, 7), 0, ownOffer(), swapAt(5, 7, 7), -1},
		stepRow{"0 keeps a Permit", empty, withPermit(swapAt(0), true), 0, empty, withPermit(swapAt(1), true), -1},
		stepRow{"1 makes a node", empty, swapAt(1, 3, 4, 5, 6, 7), 0, made, swapAt(2, 3, 7, 5, 6, 7), -1},
		stepRow{"1 behind others", offers, swapAt(1), 0, append(swapOffers(), 8, 0, 3), swapAt(2, 0, 10), -1},
		stepRow{"2 fills the slot", made, swapAt(2, 0, 7), 0, withCell(made, 6, 7), swapAt(3, 0, 7), -1},
		stepRow{"2 of a slot that is taken", offers, swapAt(2, 0, 10, 4), 0, offers, swapAt(0, 0, 10, 4), -1},
		stepRow{"2 of its own node", ownOffer(), swapAt(2, 0, 7), 0, ownOffer(), swapAt(0, 0, 7), -1},
		stepRow{"2 does not go by T", offers, swapAt(2, 7, 10), 0, offers, swapAt(0, 7, 10), -1},
	)
}

// The least and the greatest value, and every thread.
func TestSwapNewNodes(t *testing.T) {
	for id := range 4 {
		for _, arg := range []int{0, 1, 998, 999} {
			x := running(id, impl.OpSwap, arg, 1, [5]int{})
			then := running(id, impl.OpSwap, arg, 2, [5]int{0, 7})
			wantSwaps(t, stepRow{fmt.Sprint("swap of ", arg), emptySwap(), x, 0, append(emptySwap(), arg+1, 0, id+1), then, -1})
		}
	}
}

func TestSwapWithoutRoom(t *testing.T) {
	for room := range 3 {
		cells := fullQueue(emptySwap(), room)
		wantSwaps(t,
			stepRow{"without room", cells, swapAt(1, 1, 2, 3), 0, cells, ended(2, impl.ErrFull, 0), -1},
			stepRow{"without room, at its time", cells, until(swapAt(1), 9), 9, cells, ended(2, impl.ErrFull, 0), -1},
			stepRow{"without room, cancelled", cells, cancelled(swapAt(1)), 0, cells, ended(2, impl.ErrFull, 0), -1},
			stepRow{"0 does not ask for room", cells, swapAt(0), 0, cells, swapAt(1), -1},
		)
	}
	last := fullQueue(emptySwap(), 3)
	wantSwaps(t, stepRow{"the last node", last, swapAt(1), 0, append(slices.Clone(last), 8, 0, 3), swapAt(2, 0, 397), -1})
	// Who meets an offer needs no cells of its own.
	full := fullQueue(swapOffers(), 0)
	wantSwaps(t, stepRow{"6 without room", full, swapAt(6, 7, 0, 6), 0, withCell(full, 8, 8), swapAt(7, 7, 0, 6), -1})
}

// Who waits: Pc 3, 4 and 9.
func TestSwapWaits(t *testing.T) {
	offers := ownOffer()
	given, gone, cleared := withCell(offers, 8, 6), withCell(offers, 8, -1), withCell(offers, 6, 0)
	wantSwaps(t,
		stepRow{"3 parks", offers, swapAt(3, 0, 7, 4), 0, offers, parkedAt(swapAt(3, 0, 7, 4)), -1},
		stepRow{"3 with a Permit", offers, withPermit(swapAt(3, 0, 7), true), 0, offers, swapAt(3, 0, 7), -1},
		stepRow{"3 ahead of its time", offers, until(swapAt(3, 0, 7), 9), 8, offers, parkedAt(until(swapAt(3, 0, 7), 9)), -1},
		stepRow{"3 at its time", offers, until(swapAt(3, 0, 7), 9), 9, offers, until(swapAt(4, 0, 7), 9), -1},
		stepRow{"3 behind its time", offers, until(swapAt(3, 0, 7), 9), 1000000, offers, until(swapAt(4, 0, 7), 9), -1},
		stepRow{"3 at the last time", offers, until(swapAt(3, 0, 7), 1000000), 1000000, offers, until(swapAt(4, 0, 7), 1000000), -1},
		stepRow{"3 without a time", offers, swapAt(3, 0, 7), 1000000, offers, parkedAt(swapAt(3, 0, 7)), -1},
		stepRow{"3 cancelled", offers, cancelled(swapAt(3, 0, 7)), 0, offers, cancelled(swapAt(4, 0, 7)), -1},
		stepRow{"3 cancelled with a Permit", offers, withPermit(cancelled(swapAt(3, 0, 7)), true), 0, offers, withPermit(cancelled(swapAt(4, 0, 7)), true), -1},
		stepRow{"3 of a slot that was cleared", cleared, swapAt(3, 0, 7), 0, cleared, parkedAt(swapAt(3, 0, 7)), -1},
		stepRow{"3 when something came", given, swapAt(3, 0, 7), 0, given, ended(2, 0, 5), -1},
		stepRow{"3 when the least came", withCell(offers, 8, 1), swapAt(3, 0, 7), 0, withCell(offers, 8, 1), ended(2, 0, 0), -1},
		stepRow{"3 when the greatest came", withCell(offers, 8, 1000), swapAt(3, 0, 7), 0, withCell(offers, 8, 1000), ended(2, 0, 999), -1},
		stepRow{"3 when something came, at its time", given, until(swapAt(3, 0, 7), 9), 9, given, ended(2, 0, 5), -1},
		stepRow{"3 when something came, cancelled", given, cancelled(swapAt(3, 0, 7)), 0, given, ended(2, 0, 5), -1},
		stepRow{"3 when something came, with a Permit", given, withPermit(swapAt(3, 0, 7), true), 0, given, ended(2, 0, 5), -1},
		stepRow{"4 withdraws", offers, until(swapAt(4, 0, 7), 9), 9, gone, until(swapAt(9, 0, 7), 9), -1},
		stepRow{"4 cancelled", offers, cancelled(swapAt(4, 0, 7)), 0, gone, cancelled(swapAt(9, 0, 7)), -1},
		stepRow{"4 does not ask for the time", offers, swapAt(4, 0, 7), 0, gone, swapAt(9, 0, 7), -1},
		stepRow{"4 too late", given, cancelled(swapAt(4, 0, 7)), 0, given, cancelled(swapAt(3, 0, 7)), -1},
		stepRow{"4 of one that is Gone", gone, until(swapAt(4, 0, 7), 1), 5, gone, until(swapAt(3, 0, 7), 1), -1},
		stepRow{"9 clears the slot, its time over", gone, until(swapAt(9, 0, 7), 9), 9, withCell(gone, 6, 0), ended(2, impl.ErrTimeout, 0), -1},
		stepRow{"9 cancelled", gone, cancelled(swapAt(9, 0, 7)), 0, withCell(gone, 6, 0), ended(2, impl.ErrCancelled, 0), -1},
		stepRow{"9 cancelled at its time", gone, until(cancelled(swapAt(9, 0, 7)), 9), 9, withCell(gone, 6, 0), ended(2, impl.ErrCancelled, 0), -1},
		stepRow{"9 does not ask for the time", gone, swapAt(9, 0, 7), 0, withCell(gone, 6, 0), ended(2, impl.ErrTimeout, 0), -1},
		stepRow{"9 of another one's slot", withCell(gone, 6, 10), swapAt(9, 10, 7), 9, withCell(gone, 6, 10), ended(2, impl.ErrTimeout, 0), -1},
		stepRow{"9 of a slot that was cleared", withCell(gone, 6, 0), cancelled(swapAt(9, 0, 7)), 9, withCell(gone, 6, 0), ended(2, impl.ErrCancelled, 0), -1},
	)
}

// At 0 a call gives up only if nobody offers, and ahead of a node of its own.
func TestSwapGivesUpAheadOfItsNode(t *testing.T) {
	empty, offers := emptySwap(), swapOffers()
	wantSwaps(t,
		stepRow{"ahead of its time", empty, until(swapAt(0), 9), 8, empty, until(swapAt(1), 9), -1},
		stepRow{"at its time", empty, until(swapAt(0), 9), 9, empty, ended(2, impl.ErrTimeout, 0), -1},
		stepRow{"at its time with a node", empty, until(swapAt(0, 3, 7, 4), 9), 10, empty, ended(2, impl.ErrTimeout, 0), -1},
		stepRow{"cancelled", empty, cancelled(swapAt(0)), 0, empty, ended(2, impl.ErrCancelled, 0), -1},
		stepRow{"cancelled with a node", empty, cancelled(swapAt(0, 0, 7)), 0, empty, ended(2, impl.ErrCancelled, 0), -1},
		stepRow{"cancelled at its time", empty, until(cancelled(swapAt(0)), 1), 1, empty, ended(2, impl.ErrCancelled, 0), -1},
		stepRow{"at the last time", empty, until(swapAt(0), 1000000), 1000000, empty, ended(2, impl.ErrTimeout, 0), -1},
		stepRow{"never", empty, swapAt(0), 1000000, empty, swapAt(1), -1},
		stepRow{"a Permit does not help", empty, withPermit(until(swapAt(0), 9), true), 9, empty, ended(2, impl.ErrTimeout, 0), -1},
		stepRow{"at its time, somebody offers", offers, until(swapAt(0), 9), 9, offers, until(swapAt(5, 7), 9), -1},
		stepRow{"cancelled, somebody offers", offers, cancelled(swapAt(0)), 0, offers, cancelled(swapAt(5, 7)), -1},
		stepRow{"cancelled, its own node is there", ownOffer(), cancelled(swapAt(0, 0, 7)), 0, ownOffer(), cancelled(swapAt(5, 7, 7)), -1},
	)
}

func TestSwapGivesUpNowhereElse(t *testing.T) {
	for pc := range 17 {
		if pc == 0 || pc == 3 || pc == 9 {
			continue
		}
		for _, cells := range [][]int{emptySwap(), swapOffers(), withCell(swapOffers(), 8, 9)} {
			x := swapAt(pc, 7, 7, 6)
			_, plain, _, code := impl.StepSwap(arenaOf(cells...), x, 9)
			wantCode(t, "StepSwap", code, impl.OK)
			_, over, _, code := impl.StepSwap(arenaOf(cells...), until(cancelled(x), 9), 9)
			wantCode(t, "StepSwap", code, impl.OK)
			if plain.Status == impl.ThRuns {
				plain = until(cancelled(plain), 9)
			}
			wantThread(t, fmt.Sprint("given up at ", pc), over, plain)
		}
	}
}

// Who meets an offer: Pc 5 to 8, and 10 to 16.
func TestSwapMeets(t *testing.T) {
	offers := swapOffers()
	given, taken, gone := withCell(offers, 8, 8), withCell(offers, 8, 3), withCell(offers, 8, -1)
	cleared, other := withCell(given, 6, 0), withCell(given, 6, 10)
	wantSwaps(t,
		stepRow{"5 reads the value", offers, swapAt(5, 7, 3, 4, 5, 6), 0, offers, swapAt(6, 7, 3, 6, 5, 6), -1},
		stepRow{"5 of one that was given to", given, swapAt(5, 7), 0, given, swapAt(6, 7, 0, 6), -1},
		stepRow{"6 gives", offers, swapAt(6, 7, 0, 6), 0, given, swapAt(7, 7, 0, 6), -1},
		stepRow{"6 too late", taken, swapAt(6, 7, 0, 6), 0, taken, swapAt(10, 7, 0, 6), -1},
		stepRow{"6 of the like", given, swapAt(6, 7, 0, 6), 0, given, swapAt(10, 7, 0, 6), -1},
		stepRow{"6 of one that is Gone", gone, swapAt(6, 7, 0, 6), 0, gone, swapAt(10, 7, 0, 6), -1},
		stepRow{"7 clears the slot", given, swapAt(7, 7, 0, 6), 0, cleared, swapAt(8, 7, 0, 6), -1},
		stepRow{"7 of a slot that was cleared", cleared, swapAt(7, 7, 0, 6), 0, cleared, swapAt(8, 7, 0, 6), -1},
		stepRow{"7 of another one's slot", other, swapAt(7, 7, 0, 6), 0, other, swapAt(8, 7, 0, 6), -1},
		stepRow{"10 clears the slot", gone, swapAt(10, 7, 0, 6), 0, withCell(gone, 6, 0), swapAt(0, 7, 0, 6), -1},
		stepRow{"10 of a slot that was cleared", cleared, swapAt(10, 7, 9, 6), 0, cleared, swapAt(0, 7, 9, 6), -1},
		stepRow{"10 of another one's slot", other, swapAt(10, 7, 0, 6), 0, other, swapAt(0, 7, 0, 6), -1},
		stepRow{"8 cancelled at its time", cleared, until(cancelled(swapAt(8, 7, 0, 6)), 1), 9, cleared, ended(2, 0, 5), 0},
	)
	for _, pc := range []int{8, 11, 12, 13, 14, 15, 16} {
		wantSwaps(t,
			stepRow{fmt.Sprint("it wakes and ends well at ", pc), cleared, swapAt(pc, 7, 0, 6), 0, cleared, ended(2, 0, 5), 0},
			stepRow{fmt.Sprint("it goes by its registers at ", pc), offers, swapAt(pc, 7, 0, 1000), 0, offers, ended(2, 0, 999), 0},
			stepRow{fmt.Sprint("of its own node at ", pc), ownOffer(), swapAt(pc, 7, 7, 1), 0, ownOffer(), ended(2, 0, 0), 2},
			stepRow{fmt.Sprint("with a Permit at ", pc), cleared, withPermit(swapAt(pc, 7, 9, 6), true), 0, cleared, ended(2, 0, 5), 0},
		)
	}
}

// The least and the greatest value that is given, by every thread, and every owner.
func TestSwapGivesAndWakes(t *testing.T) {
	for id := range 4 {
		for _, arg := range []int{0, 1, 998, 999} {
			x := running(id, impl.OpSwap, arg, 6, [5]int{7, 0, 6})
			then := running(id, impl.OpSwap, arg, 7, [5]int{7, 0, 6})
			wantSwaps(t, stepRow{fmt.Sprint("6 of ", arg), swapOffers(), x, 0, withCell(swapOffers(), 8, arg+1), then, -1})
		}
		cells := withCell(swapOffers(), 9, id+1)
		wantSwaps(t, stepRow{fmt.Sprint("8 wakes ", id), cells, swapAt(8, 7, 0, 6), 0, cells, ended(2, 0, 5), id})
	}
}

// Cells that are not there are loaded as 0. The last cell is 9.
func TestSwapLoadsWhatIsNotThere(t *testing.T) {
	cells := swapOffers()
	for _, far := range []int{10, 11, 400, 1000, impl.MaxWord, -3, -4, -400, -impl.MaxWord} {
		wantSwaps(t,
			stepRow{fmt.Sprint("3 of ", far), cells, swapAt(3, 0, far), 0, cells, parkedAt(swapAt(3, 0, far)), -1},
			stepRow{fmt.Sprint("3, cancelled, of ", far), cells, cancelled(swapAt(3, 0, far)), 0, cells, cancelled(swapAt(4, 0, far)), -1},
			stepRow{fmt.Sprint("5 of ", far), cells, swapAt(5, far, 0, 9), 0, cells, swapAt(6, far, 0, 0), -1},
			stepRow{fmt.Sprint("8 of ", far), cells, swapAt(8, far, 0, 6), 0, cells, ended(2, 0, 5), -1},
		)
	}
	wantSwaps(t,
		stepRow{"3 of the last cell but one", cells, swapAt(3, 0, 8), 0, cells, ended(2, 0, 0), -1},
		stepRow{"3 of the last cell", cells, swapAt(3, 0, 9), 0, cells, parkedAt(swapAt(3, 0, 9)), -1},
		stepRow{"3 of none, whose next is the head", cells, swapAt(3, 0, 0), 0, cells, ended(2, 0, 5), -1},
		stepRow{"3 of -1, whose next is cell 0", cells, swapAt(3, 0, -1), 0, cells, parkedAt(swapAt(3, 0, -1)), -1},
		stepRow{"3 of -2", cells, swapAt(3, 0, -2), 0, cells, parkedAt(swapAt(3, 0, -2)), -1},
		stepRow{"5 of the last cell", cells, swapAt(5, 9, 0, 4), 0, cells, swapAt(6, 9, 0, 1), -1},
		stepRow{"5 of cell 0", cells, swapAt(5, 0, 0, 4), 0, cells, swapAt(6, 0, 0, 0), -1},
		stepRow{"5 of -1", cells, swapAt(5, -1, 0, 4), 0, cells, swapAt(6, -1, 0, 0), -1},
		stepRow{"8, the owner behind the last cell", cells, swapAt(8, 8, 0, 6), 0, cells, ended(2, 0, 5), -1},
		stepRow{"8, the owner in cell 0", cells, swapAt(8, -2, 0, 6), 0, cells, ended(2, 0, 5), -1},
		stepRow{"8, the owner in the head", cells, swapAt(8, -1, 0, 6), 0, cells, ended(2, 0, 5), 5},
		stepRow{"8, the owner in the tail", cells, swapAt(8, 0, 0, 6), 0, cells, ended(2, 0, 5), 5},
	)
}

// A cell that is not there is 0, cell 0 too: a change of it from 0 is done, though nothing is written.
func TestSwapChangesOfWhatIsNotThere(t *testing.T) {
	cells := withCell(swapOffers(), 9, 0)
	for _, far := range []int{9, 10, 11, 399, 400, 1000, impl.MaxWord, -1, -2, -3, -400, -impl.MaxWord} {
		wantSwaps(t,
			stepRow{fmt.Sprint("4 of ", far), cells, swapAt(4, 0, far), 0, cells, swapAt(9, 0, far), -1},
			stepRow{fmt.Sprint("6 of ", far), cells, swapAt(6, far, 0, 6), 0, cells, swapAt(7, far, 0, 6), -1},
			stepRow{fmt.Sprint("7 of ", far), cells, swapAt(7, far, 0, 6), 0, cells, swapAt(8, far, 0, 6), -1},
			stepRow{fmt.Sprint("9 of ", far), cells, swapAt(9, 7, far), 0, cells, ended(2, impl.ErrTimeout, 0), -1},
			stepRow{fmt.Sprint("10 of ", far), cells, swapAt(10, far, 0, 6), 0, cells, swapAt(0, far, 0, 6), -1},
		)
	}
	wantSwaps(t,
		stepRow{"4 in the last cell", cells, swapAt(4, 0, 8), 0, withCell(cells, 9, -1), swapAt(9, 0, 8), -1},
		stepRow{"6 in the last cell", cells, swapAt(6, 8, 0, 1), 0, withCell(cells, 9, 8), swapAt(7, 8, 0, 1), -1},
		stepRow{"4 of none, whose next is the head", cells, swapAt(4, 0, 0), 0, cells, swapAt(3, 0, 0), -1},
		stepRow{"6 of none, whose next is the head", cells, swapAt(6, 0, 0, 1), 0, cells, swapAt(10, 0, 0, 1), -1},
		stepRow{"4 in the slot", emptySwap(), swapAt(4, 0, 5), 0, withCell(emptySwap(), 6, -1), swapAt(9, 0, 5), -1},
		stepRow{"6 in the slot", emptySwap(), swapAt(6, 5, 0), 0, withCell(emptySwap(), 6, 8), swapAt(7, 5, 0), -1},
	)
}

// Six cells are enough for a step; the slot is then not there.
func TestSwapStepsWithoutASlot(t *testing.T) {
	six := emptyQueue()
	wantSwaps(t,
		stepRow{"0", six, swapAt(0, 9), 0, six, swapAt(1), -1},
		stepRow{"0 with a node", six, swapAt(0, 9, 3), 0, six, swapAt(2, 0, 3), -1},
		stepRow{"0 cancelled", six, cancelled(swapAt(0)), 0, six, ended(2, impl.ErrCancelled, 0), -1},
		stepRow{"1", six, swapAt(1), 0, append(emptyQueue(), 8, 0, 3), swapAt(2, 0, 6), -1},
		stepRow{"2", six, swapAt(2, 0, 3), 0, six, swapAt(3, 0, 3), -1},
		stepRow{"7", six, swapAt(7, 3, 0, 6), 0, six, swapAt(8, 3, 0, 6), -1},
		stepRow{"7 of none", six, swapAt(7, 0, 0, 6), 0, six, swapAt(8, 0, 0, 6), -1},
		stepRow{"8", six, swapAt(8, 3, 0, 6), 0, six, ended(2, 0, 5), -1},
		stepRow{"9", six, swapAt(9, 0, 3), 0, six, ended(2, impl.ErrTimeout, 0), -1},
		stepRow{"10", six, swapAt(10, 3), 0, six, swapAt(0, 3), -1},
	)
}

// Registers and slots may have any numbers. Results are one less, whatever that is.
func TestSwapNumbersOfAnySort(t *testing.T) {
	for _, v := range []int{-impl.MaxWord, -2, -1, 1, 2, 6, 10, 400, 1000, impl.MaxWord} {
		slot := withCell(emptySwap(), 6, v)
		came := withCell(ownOffer(), 8, v)
		wantSwaps(t,
			stepRow{fmt.Sprint("0 of slot ", v), slot, swapAt(0), 0, slot, swapAt(5, v), -1},
			stepRow{fmt.Sprint("0, cancelled, of slot ", v), slot, cancelled(swapAt(0)), 0, slot, cancelled(swapAt(5, v)), -1},
			stepRow{fmt.Sprint("0 with a node ", v), emptySwap(), swapAt(0, 0, v), 0, emptySwap(), swapAt(2, 0, v), -1},
			stepRow{fmt.Sprint("2 of a node ", v), emptySwap(), swapAt(2, 0, v), 0, slot, swapAt(3, 0, v), -1},
			stepRow{fmt.Sprint("2 of slot ", v), slot, swapAt(2, 0, v), 0, slot, swapAt(0, 0, v), -1},
			stepRow{fmt.Sprint("3, what came is ", v), came, swapAt(3, 0, 7), 0, came, ended(2, 0, v-1), -1},
			stepRow{fmt.Sprint("4, what came is ", v), came, cancelled(swapAt(4, 0, 7)), 0, came, cancelled(swapAt(3, 0, 7)), -1},
			stepRow{fmt.Sprint("5, the value is ", v), withCell(ownOffer(), 7, v), swapAt(5, 7), 0, withCell(ownOffer(), 7, v), swapAt(6, 7, 0, v), -1},
			stepRow{fmt.Sprint("6, what came is ", v), came, swapAt(6, 7), 0, came, swapAt(10, 7), -1},
			stepRow{fmt.Sprint("7 of slot ", v), slot, swapAt(7, v), 0, emptySwap(), swapAt(8, v), -1},
			stepRow{fmt.Sprint("9 of slot ", v), slot, swapAt(9, 0, v), 0, emptySwap(), ended(2, impl.ErrTimeout, 0), -1},
			stepRow{fmt.Sprint("10 of slot ", v), slot, swapAt(10, v), 0, emptySwap(), swapAt(0, v), -1},
			stepRow{fmt.Sprint("8, G is ", v), emptySwap(), swapAt(8, 20, 0, v), 0, emptySwap(), ended(2, 0, v-1), -1},
			stepRow{fmt.Sprint("8, the owner is ", v), withCell(ownOffer(), 9, v), swapAt(8, 7, 0, 1), 0, withCell(ownOffer(), 9, v), ended(2, 0, 0), v - 1},
		)
	}
	wantSwaps(t,
		stepRow{"2 without a node", emptySwap(), swapAt(2), 0, emptySwap(), swapAt(3), -1},
		stepRow{"8, G is 0", emptySwap(), swapAt(8, 20), 0, emptySwap(), ended(2, 0, -1), -1},
		stepRow{"8 of nobody's node", withCell(ownOffer(), 9, 0), swapAt(8, 7, 0, 1), 0, withCell(ownOffer(), 9, 0), ended(2, 0, 0), -1},
	)
}

// The faults in their order: of arena and thread, of the number of cells and of now, of the call.
func TestSwapStepFaults(t *testing.T) {
	right, few := arenaOf(swapOffers()...), arenaOf(0, 6, 6, -1, 0)
	idle := ended(1, 12, 0)
	for name, bad := range badArenas() {
		for _, now := range []int{-1, 0, 1000001} {
			wantNoStep(t, "a bad arena, "+name, impl.StepSwap, bad, swapAt(0), now, impl.ErrBad)
			wantNoStep(t, "a bad arena and an idle thread, "+name, impl.StepSwap, bad, idle, now, impl.ErrBad)
		}
	}
	for name, bad := range badThreads() {
		wantNoStep(t, "a bad thread, "+name, impl.StepSwap, right, bad, 0, impl.ErrBad)
		wantNoStep(t, "a bad thread and few cells, "+name, impl.StepSwap, few, bad, -1, impl.ErrBad)
	}
	for n := 1; n < 6; n++ {
		a := impl.Arena{Cells: make([]int, n)}
		wantNoStep(t, "few cells", impl.StepSwap, a, swapAt(0), 0, impl.ErrRange)
		wantNoStep(t, "few cells and an idle thread", impl.StepSwap, a, idle, 0, impl.ErrRange)
	}
	for _, now := range timesOut {
		wantNoStep(t, fmt.Sprint("at ", now), impl.StepSwap, right, swapAt(0), now, impl.ErrRange)
		wantNoStep(t, fmt.Sprint("idle, at ", now), impl.StepSwap, right, idle, now, impl.ErrRange)
	}
	for _, now := range []int{0, 1, 999999, 1000000} {
		if _, _, _, code := impl.StepSwap(right, swapAt(0), now); code != impl.OK {
			t.Error("StepSwap at", now, "has code", code)
		}
	}
}

func TestSwapStepsOfNoSwap(t *testing.T) {
	right := arenaOf(emptySwap()...)
	for _, x := range slices.Concat(idleThreads(), parkedThreads()) {
		wantNoStep(t, "one that does not run", impl.StepSwap, right, x, 0, impl.ErrIdle)
	}
	others, swaps := 0, 0
	for _, x := range runningThreads() {
		if x.Op == impl.OpSwap {
			swaps++
			_, _, _, code := impl.StepSwap(right, x, 0)
			wantCode(t, "StepSwap of swap", code, impl.OK)
			wantNoStep(t, "a swap", impl.StepQueue, right, x, 0, impl.ErrIdle)
			continue
		}
		others++
		wantNoStep(t, "another call", impl.StepSwap, right, x, 0, impl.ErrIdle)
	}
	if others == 0 || swaps == 0 {
		t.Error("too few were tried:", others, swaps)
	}
}

func wantOffer(t *testing.T, what string, cells []int, owner, value, want int) {
	t.Helper()
	k, v, code := impl.SwapOffer(arenaOf(cells...))
	wantCode(t, what, code, want)
	if k != owner || v != value {
		t.Errorf("%s: owner %d, value %d, want %d, %d", what, k, v, owner, value)
	}
}

func TestSwapOffer(t *testing.T) {
	offers := swapOffers()
	wantOffer(t, "an empty slot", emptySwap(), 0, 0, impl.ErrNone)
	wantOffer(t, "an offer", offers, 0, 5, impl.OK)
	wantOffer(t, "another offer", ownOffer(), 2, 7, impl.OK)
	wantOffer(t, "the least value", withCell(offers, 7, 1), 0, 0, impl.OK)
	wantOffer(t, "the greatest one", withCell(withCell(offers, 7, 1000), 9, 4), 3, 999, impl.OK)
	wantOffer(t, "a node behind others", append(withCell(offers, 6, 10), 9, 0, 2), 1, 8, impl.OK)
	for _, came := range []int{impl.Gone, 1, 6, 1000, impl.MaxWord, -impl.MaxWord} {
		wantOffer(t, fmt.Sprint("for which came ", came), withCell(offers, 8, came), 0, 0, impl.ErrNone)
	}
	wantOffer(t, "a node that is in no slot", withCell(offers, 6, 0), 0, 0, impl.ErrNone)
}

// Arenas that are right, but have no slot, or one with a number that is no node's.
func TestSwapOfferOfOtherArenas(t *testing.T) {
	for n := 1; n <= 7; n++ {
		wantOffer(t, fmt.Sprint("cells: ", n), make([]int, n), 0, 0, impl.ErrNone)
	}
	wantOffer(t, "a queue without a slot", emptyQueue(), 0, 0, impl.ErrNone)
	for _, far := range []int{10, 11, 400, impl.MaxWord, -3, -400, -impl.MaxWord} {
		wantOffer(t, fmt.Sprint("a node at ", far), withCell(swapOffers(), 6, far), -1, -1, impl.OK)
	}
	wantOffer(t, "a node that is cut off", append(emptyQueue(), 7, 6), -1, 5, impl.OK)
	wantOffer(t, "a node without its owner", append(emptyQueue(), 7, 6, 0), -1, 5, impl.OK)
	wantOffer(t, "a node in the last cell", withCell(swapOffers(), 6, 9), -1, 0, impl.OK)
	wantOffer(t, "a node at -1", withCell(emptySwap(), 6, -1), 5, -1, impl.OK)
	wantOffer(t, "a node at -2", withCell(emptySwap(), 6, -2), -1, -1, impl.OK)
	wantOffer(t, "an owner and a value of other numbers", append(emptyQueue(), 7, -9, 0, 500), 499, -10, impl.OK)
	for name, bad := range badArenas() {
		k, v, code := impl.SwapOffer(bad)
		wantCode(t, "SwapOffer of "+name, code, impl.ErrBad)
		if k != 0 || v != 0 {
			t.Error("not all is zero:", name, k, v)
		}
	}
}
