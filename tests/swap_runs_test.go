package tests

import (
	"fmt"
	"math/rand"
	"slices"
	"testing"

	"loop.example/g00624/impl"
)

// swapRun is an arena with threads that swap, whose steps come in any order.
type swapRun struct {
	t       *testing.T
	arena   impl.Arena
	threads []impl.Thread
	now     int
}

func newSwapRun(t *testing.T, args ...int) *swapRun {
	t.Helper()
	r := &swapRun{t: t, arena: arenaOf(emptySwap()...), threads: make([]impl.Thread, len(args))}
	for k, arg := range args {
		r.threads[k].Id = k
		r.begin(k, arg, 0)
	}
	return r
}

// fork is the same run once more, which shares no memory with it.
func (r *swapRun) fork() *swapRun {
	out := *r
	out.arena = arenaOf(slices.Clone(r.arena.Cells)...)
	out.threads = slices.Clone(r.threads)
	return &out
}

func (r *swapRun) begin(k, arg, until int) {
	r.t.Helper()
	x, code := impl.BeginCall(r.threads[k], impl.OpSwap, arg, until)
	wantCode(r.t, "BeginCall", code, impl.OK)
	r.threads[k] = x
}

func (r *swapRun) step(k int) {
	r.t.Helper()
	b, y, wakes, code := impl.StepSwap(r.arena, r.threads[k], r.now)
	wantCode(r.t, "StepSwap", code, impl.OK)
	wantOneCell(r.t, r.arena.Cells, b.Cells)
	if !impl.ArenaOK(b) || !impl.ThreadOK(y) || wakes == k {
		r.t.Fatalf("not right any more: %v %+v wakes %d", b, y, wakes)
	}
	r.arena, r.threads[k] = b, y
	if wakes >= 0 {
		r.threads[wakes], _ = impl.UnparkThread(r.threads[wakes])
	}
}

func (r *swapRun) steps(k, n int) {
	r.t.Helper()
	for range n {
		r.step(k)
	}
}

func (r *swapRun) settle(k int) {
	r.t.Helper()
	for range 1000 {
		if r.threads[k].Status != impl.ThRuns {
			return
		}
		r.step(k)
	}
	r.t.Fatal("it runs on and on:", r.threads[k])
}

func (r *swapRun) quiet() bool {
	return !slices.ContainsFunc(r.threads, func(x impl.Thread) bool { return x.Status == impl.ThRuns })
}

func (r *swapRun) cancel(k int) {
	r.t.Helper()
	x, code := impl.CancelThread(r.threads[k])
	wantCode(r.t, "CancelThread", code, impl.OK)
	r.threads[k] = x
}

func (r *swapRun) tick(n int) {
	r.now += n
	for k := range r.threads {
		r.threads[k], _ = impl.ExpireThread(r.threads[k], r.now)
	}
}

// wantPairs asks of a run in which nobody runs any more, and everybody had one
// call with a value of its own: those that ended well are pairs, those that
// failed gave nobody anything, and one at most is left, with its offer.
func (r *swapRun) wantPairs(args []int) {
	r.t.Helper()
	parked := -1
	for k, x := range r.threads {
		switch {
		case x.Status == impl.ThParked && parked < 0:
			parked = k
		case x.Status == impl.ThParked:
			r.t.Errorf("two wait for each other: %+v", r.threads)
		case x.Code != impl.OK:
			if x.Result != 0 || r.hasResult(args[k]) {
				r.t.Errorf("%d failed, and gave or got something: %+v", k, r.threads)
			}
		default:
			other := slices.Index(args, x.Result)
			if other < 0 || other == k || r.threads[other] != ended(other, impl.OK, args[k]) {
				r.t.Errorf("%d is no one's pair: %+v", k, r.threads)
			}
		}
	}
	if parked >= 0 {
		wantOffer(r.t, "who is left", r.arena.Cells, parked, args[parked], impl.OK)
	} else {
		wantOffer(r.t, "nobody is left", r.arena.Cells, 0, 0, impl.ErrNone)
	}
}

func (r *swapRun) hasResult(v int) bool {
	return slices.ContainsFunc(r.threads, func(x impl.Thread) bool {
		return x.Status == impl.ThIdle && x.Code == impl.OK && x.Result == v
	})
}

// everyRun leads the run on in all orders of steps, and of what next may do
// beside them; each way to the end is looked at once.
func everyRun(r *swapRun, next func(*swapRun) []*swapRun, look func(*swapRun)) int {
	seen := map[string]bool{}
	todo := []*swapRun{r}
	for len(todo) > 0 && !r.t.Failed() {
		last := todo[len(todo)-1]
		todo = todo[:len(todo)-1]
		key := fmt.Sprint(last.arena, last.threads, last.now)
		if seen[key] {
			continue
		}
		seen[key] = true
		if last.quiet() {
			look(last)
		}
		for k, x := range last.threads {
			if x.Status == impl.ThRuns {
				more := last.fork()
				more.step(k)
				todo = append(todo, more)
			}
		}
		todo = append(todo, next(last)...)
	}
	return len(seen)
}

func nothingElse(*swapRun) []*swapRun { return nil }

// cancels lets each thread of the list be cancelled at any time.
func cancels(list ...int) func(*swapRun) []*swapRun {
	return func(r *swapRun) []*swapRun {
		var all []*swapRun
		for _, k := range list {
			if r.threads[k].Status != impl.ThIdle && !r.threads[k].Cancel {
				more := r.fork()
				more.cancel(k)
				all = append(all, more)
			}
		}
		return all
	}
}

// Promise 6, the second part, with the steps of both in any order.
func TestTwoSwap(t *testing.T) {
	for _, args := range [][]int{{5, 8}, {0, 999}, {999, 0}, {7, 7}} {
		everyRun(newSwapRun(t, args...), nothingElse, func(r *swapRun) {
			wantThread(t, "the first one", r.threads[0], ended(0, impl.OK, args[1]))
			wantThread(t, "the second one", r.threads[1], ended(1, impl.OK, args[0]))
			wantOffer(t, "nobody is left", r.arena.Cells, 0, 0, impl.ErrNone)
		})
	}
}

// Of three two swap, and one is left; which one hangs on the order of the steps.
func TestThreeSwap(t *testing.T) {
	args := []int{5, 8, 0}
	left := map[int]bool{}
	n := everyRun(newSwapRun(t, args...), nothingElse, func(r *swapRun) {
		r.wantPairs(args)
		left[slices.IndexFunc(r.threads, func(x impl.Thread) bool { return x.Status == impl.ThParked })] = true
	})
	if len(left) != 3 || left[-1] || n < 1000 {
		t.Error("runs that say too little: left", left, "of", n)
	}
}

// Whoever of two is cancelled, and when: both swap, or each that was cancelled
// fails and gives nobody anything.
func TestTwoSwapOrAreCancelled(t *testing.T) {
	args := []int{5, 8}
	came := map[string]bool{}
	everyRun(newSwapRun(t, args...), cancels(0, 1), func(r *swapRun) {
		r.wantPairs(args)
		came[fmt.Sprint(r.threads[0].Status, r.threads[0].Code, r.threads[1].Status, r.threads[1].Code)] = true
	})
	for _, want := range []string{"0 0 0 0", "0 13 0 13", "0 13 2 0", "2 0 0 13"} {
		if !came[want] {
			t.Errorf("nobody came to %q, but to %v", want, came)
		}
	}
}

// One of three leaves at any time, at whatever step the others are.
func TestThreeSwapOrOneIsCancelled(t *testing.T) {
	args := []int{5, 8, 0}
	everyRun(newSwapRun(t, args...), cancels(1), func(r *swapRun) { r.wantPairs(args) })
}

// The time of one goes by at any step of the other.
func TestTwoSwapOrTimeGoesBy(t *testing.T) {
	args := []int{5, 8}
	r := newSwapRun(t, args...)
	r.threads[0] = until(r.threads[0], 1)
	codes := map[int]bool{}
	everyRun(r, func(r *swapRun) []*swapRun {
		if r.now > 0 {
			return nil
		}
		more := r.fork()
		more.tick(1)
		return []*swapRun{more}
	}, func(r *swapRun) {
		r.wantPairs(args)
		codes[r.threads[0].Code] = true
	})
	if !codes[impl.OK] || !codes[impl.ErrTimeout] || len(codes) != 2 {
		t.Error("what the first one came to:", codes)
	}
}

// A wake without a reason does no harm: the call parks again.
func TestSwapWokenForNothing(t *testing.T) {
	r := newSwapRun(t, 5)
	r.settle(0)
	for range 3 {
		was := r.fork()
		r.threads[0], _ = impl.WakeThread(r.threads[0])
		r.settle(0)
		wantThread(t, "woken for nothing", r.threads[0], was.threads[0])
		wantCells(t, "woken for nothing", r.arena, was.arena.Cells...)
	}
}

// An unpark ahead of the park is not lost.
func TestSwapWakesWhoIsNotParkedYet(t *testing.T) {
	r := newSwapRun(t, 5, 8)
	r.steps(0, 3)
	r.settle(1)
	wantThread(t, "who came", r.threads[1], ended(1, 0, 5))
	if !r.threads[0].Permit || r.threads[0].Status != impl.ThRuns {
		t.Errorf("no permit: %+v", r.threads[0])
	}
	r.settle(0)
	wantThread(t, "who offered", r.threads[0], ended(0, 0, 8))
}

// The one that is given to just as it gives up has been given to; ahead of that it leaves.
func TestSwapGivesUpOrIsGivenTo(t *testing.T) {
	for ahead := range 6 {
		r := newSwapRun(t, 5, 8)
		r.settle(0)
		// The third step of the other one is the one that gives.
		r.steps(1, ahead)
		if r.threads[0].Status != impl.ThIdle {
			r.cancel(0)
		}
		r.settle(0)
		r.settle(1)
		if ahead < 3 {
			wantThread(t, "given up", r.threads[0], ended(0, impl.ErrCancelled, 0))
			wantOffer(t, "the other one offers", r.arena.Cells, 1, 8, impl.OK)
		} else {
			wantThread(t, "given to", r.threads[0], ended(0, 0, 8))
			wantThread(t, "who gave", r.threads[1], ended(1, 0, 5))
		}
	}
}

// Who finds a node that was withdrawn, or given to, clears the slot and offers its own.
func TestSwapPassesWhatIsOver(t *testing.T) {
	r := newSwapRun(t, 5, 8)
	r.settle(0)
	r.cancel(0)
	r.steps(0, 2)
	r.settle(1)
	wantOffer(t, "the other one offers", r.arena.Cells, 1, 8, impl.OK)
	r.settle(0)
	wantThread(t, "given up", r.threads[0], ended(0, impl.ErrCancelled, 0))
	wantOffer(t, "the other one's offer stays", r.arena.Cells, 1, 8, impl.OK)
	r.begin(0, 9, 0)
	r.settle(0)
	r.settle(1)
	wantThread(t, "a new call", r.threads[0], ended(0, 0, 8))
	wantThread(t, "the other one", r.threads[1], ended(1, 0, 9))
}

// Four threads swap as a seed says; every call brings a value of its own.
func randomSwaps(t *testing.T, seed int64) (gave map[int]int) {
	random := rand.New(rand.NewSource(seed))
	r := newSwapRun(t)
	r.threads = make([]impl.Thread, 4)
	for k := range r.threads {
		r.threads[k].Id = k
	}
	gave = map[int]int{}
	next := 0
	for range 500 {
		k := random.Intn(4)
		switch x := r.threads[k]; {
		case random.Intn(20) == 0:
			r.tick(1)
		case x.Status == impl.ThIdle:
			r.begin(k, next%1000, random.Intn(2)*(r.now+1+random.Intn(9)))
			next++
		case random.Intn(40) == 0:
			r.cancel(k)
		case x.Status == impl.ThRuns:
			r.step(k)
			noteSwap(x, r.threads[k], gave)
		}
	}
	for range 1000 {
		for k, x := range r.threads {
			if x.Status == impl.ThRuns {
				r.step(k)
				noteSwap(x, r.threads[k], gave)
			}
		}
	}
	if !r.quiet() {
		t.Error("they run on and on:", r.threads)
	}
	return gave
}

func noteSwap(x, y impl.Thread, gave map[int]int) {
	if y.Status == impl.ThIdle && y.Code == impl.OK {
		gave[x.Arg] = y.Result
	}
}

func TestSwapsInAnyOrder(t *testing.T) {
	pairs := 0
	for seed := range int64(200) {
		gave := randomSwaps(t, seed)
		for arg, result := range gave {
			if back, ok := gave[result]; !ok || back != arg || result == arg {
				t.Errorf("seed %d: %d got %d, and that one %d", seed, arg, result, back)
			}
		}
		pairs += len(gave) / 2
	}
	if pairs < 2000 {
		t.Error("runs that say too little: pairs", pairs)
	}
}

// An arena without room: who needs a node fails, and all else stays.
func TestSwapInAFullArena(t *testing.T) {
	r := newSwapRun(t, 5, 8, 9)
	r.settle(0)
	r.arena.Cells = fullQueue(r.arena.Cells, 2)
	was := slices.Clone(r.arena.Cells)
	r.settle(1)
	r.settle(0)
	wantThread(t, "who came", r.threads[1], ended(1, 0, 5))
	wantThread(t, "who offered", r.threads[0], ended(0, 0, 8))
	was[6], was[8] = 0, 9
	wantCells(t, "the two have swapped", r.arena, was...)
	r.settle(2)
	wantThread(t, "no room", r.threads[2], ended(2, impl.ErrFull, 0))
	wantCells(t, "all else stays", r.arena, was...)
}

// swapThreads are swaps at every Pc, with registers of all sorts.
func swapThreads() []impl.Thread {
	numbers := []int{-impl.MaxWord, -8, -3, -2, -1, 0, 0, 0, 1, 2, 5, 6, 7, 7, 8, 9, 10, 399, 400, impl.MaxWord}
	random := rand.New(rand.NewSource(7))
	var all []impl.Thread
	for i := range 17 * 60 {
		x := running(i%4, impl.OpSwap, random.Intn(1000), i%17, [5]int{})
		for k := range x.Regs {
			x.Regs[k] = numbers[random.Intn(len(numbers))]
		}
		x.Until = random.Intn(3) * 4
		x.Permit, x.Cancel = random.Intn(2) == 0, random.Intn(4) == 0
		all = append(all, x)
	}
	return all
}

// swapArenas are right, and have cells enough for a step; some have a slot.
func swapArenas() []impl.Arena {
	all := queueArenas()
	far := withCell(emptySwap(), 6, impl.MaxWord)
	for _, cells := range [][]int{emptySwap(), swapOffers(), ownOffer(), far, withCell(emptySwap(), 6, -1),
		withCell(swapOffers(), 8, 9), withCell(swapOffers(), 8, -1),
		fullQueue(emptySwap(), 0), fullQueue(swapOffers(), 2), fullQueue(ownOffer(), 3)} {
		all = append(all, arenaOf(cells...))
	}
	return all
}

// Whatever a step is given: one cell at most, or new ones at 1 alone; a right arena; no wait but at 3.
func TestSwapStepChangesOneCell(t *testing.T) {
	for _, a := range swapArenas() {
		for _, x := range swapThreads() {
			b, y, wakes, code := impl.StepSwap(a, x, 4)
			wantCode(t, "StepSwap", code, impl.OK)
			wantOneCell(t, a.Cells, b.Cells)
			if len(b.Cells) != len(a.Cells) && x.Pc != 1 {
				t.Errorf("new cells at %d", x.Pc)
			}
			if !impl.ArenaOK(b) {
				t.Errorf("not right any more: %v", b)
			}
			wakesAt := x.Pc == 8 || x.Pc > 10
			if y.Id != x.Id || y.Status == impl.ThParked && (x.Pc != 3 || y.Pc != 3) || wakes != -1 && !wakesAt {
				t.Errorf("from %+v to %+v, wakes %d", x, y, wakes)
			}
		}
	}
}

// saySwap calls all that is about swaps with what it is given, and tells all answers.
func saySwap(a impl.Arena, x impl.Thread, now int) string {
	b, y, wakes, code := impl.StepSwap(a, x, now)
	s := fmt.Sprintln(b, y, wakes, code)
	owner, value, code := impl.SwapOffer(a)
	s += fmt.Sprintln(owner, value, code)
	b, code = impl.InitSwap(a)
	return s + fmt.Sprintln(b, code)
}

func TestSwapCallsDoNotHangOnEarlierOnes(t *testing.T) {
	arenas := append(swapArenas(), arenaOf(0), arenaOf(0, 6, 6, -1, 0))
	for _, a := range badArenas() {
		arenas = append(arenas, a)
	}
	threads := append(swapThreads()[:340], idleThreads()[0], parkedThreads()[0], putAt(0), running(1, impl.OpPush, 3, 0, [5]int{}), impl.Thread{Id: 9})
	first := map[[2]int]string{}
	for turn := range 2 {
		for i, a := range arenas {
			for j, x := range threads {
				now := []int{4, -1, 0, 1000000, 1000001}[(i+j)%5]
				said := saySwap(a, x, now)
				if turn == 0 {
					first[[2]int{i, j}] = said
				}
				if said != first[[2]int{i, j}] {
					t.Errorf("alike arguments, other answers: %v %+v: %s and %s", a, x, said, first[[2]int{i, j}])
				}
			}
		}
	}
}

// No step writes into the cells it is given, nor behind them, nor hands them out again.
func TestSwapKeepsItsArguments(t *testing.T) {
	for _, was := range [][]int{emptySwap(), swapOffers()} {
		for _, x := range swapThreads() {
			cells := guarded(was...)
			b, _, _, code := impl.StepSwap(impl.Arena{Cells: cells}, x, 4)
			wantCode(t, "StepSwap", code, impl.OK)
			for i := range b.Cells[:cap(b.Cells)] {
				b.Cells[:cap(b.Cells)][i] = -1
			}
			wantUntouched(t, fmt.Sprint("StepSwap at ", x.Pc), cells, was...)
		}
	}
	cells := guarded(emptyQueue()...)
	b, code := impl.InitSwap(impl.Arena{Cells: cells})
	wantCode(t, "InitSwap", code, impl.OK)
	b.Cells[0] = -1
	wantUntouched(t, "InitSwap", cells, emptyQueue()...)
}
