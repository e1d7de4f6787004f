package tests

import (
	"fmt"
	"math/rand"
	"slices"
	"testing"

	"loop.example/g00624/impl"
)

// modelAccount tells what calls come to by all that was called so far, in the
// order in which it was called, and by what of it is over. It keeps no lists of
// those who wait, nor a stack.
type modelAccount struct {
	calls []impl.Waiter
	over  []bool
}

func (a *modelAccount) fork() *modelAccount {
	return &modelAccount{slices.Clone(a.calls), slices.Clone(a.over)}
}

// last are the latest calls that came, enough of them to tell a run that is short.
func (a *modelAccount) last() []impl.Waiter { return a.calls[max(0, len(a.calls)-4):] }

// firstOf is where the first call lies that is not over, and is one of these; -1 of none.
func (a *modelAccount) firstOf(is func(impl.Waiter) bool) int {
	for i, w := range a.calls {
		if !a.over[i] && is(w) {
			return i
		}
	}
	return -1
}

// waiterOf is where the thread's call lies that waits.
func (a *modelAccount) waiterOf(k int) int {
	return a.firstOf(func(w impl.Waiter) bool { return w.Thread == k && w.Op <= impl.OpSwap })
}

// note tells what w is to come to; a push is over once its value was popped.
func (a *modelAccount) note(w impl.Waiter) modelAnswer {
	if a.waiterOf(w.Thread) >= 0 {
		return modelAnswer{code: impl.ErrBusy, who: -1}
	}
	is, over := a.model(), false
	alone := modelAnswer{ended: true, who: -1}
	switch w.Op {
	case impl.OpPush:
		if len(is.Stack) == 400 {
			return modelAnswer{code: impl.ErrFull, who: -1}
		}
		alone.result = w.Arg
	case impl.OpPop:
		at := a.lastPush()
		if at < 0 {
			alone.code = impl.ErrEmpty
			return alone
		}
		a.over[at] = true
		alone.result, over = a.calls[at].Arg, true
	case impl.OpCount:
		alone.result, over = is.Count, true
	default:
		return a.meet(w)
	}
	a.calls, a.over = append(a.calls, w), append(a.over, over)
	return alone
}

// lastPush is where the push lies whose value is on the top; -1 of none.
func (a *modelAccount) lastPush() int {
	last := -1
	for i, x := range a.calls {
		if x.Op == impl.OpPush && !a.over[i] {
			last = i
		}
	}
	return last
}

func (a *modelAccount) meet(w impl.Waiter) modelAnswer {
	with := map[int]int{impl.OpPut: impl.OpTake, impl.OpTake: impl.OpPut, impl.OpSwap: impl.OpSwap}[w.Op]
	at := a.firstOf(func(x impl.Waiter) bool { return x.Op == with })
	a.calls, a.over = append(a.calls, w), append(a.over, at >= 0)
	if at < 0 {
		return modelAnswer{who: -1}
	}
	a.over[at] = true
	// Of a put and a take one alone has a value, and the other one's Arg is 0.
	value := a.calls[at].Arg
	if w.Op == impl.OpPut {
		value = w.Arg
	}
	return modelAnswer{ended: true, result: value, who: a.calls[at].Thread}
}

func (a *modelAccount) leave(k int) int {
	at := a.waiterOf(k)
	if at < 0 {
		return impl.ErrIdle
	}
	a.over[at] = true
	return impl.OK
}

// model is the account as a model, with its stack from the top on.
func (a *modelAccount) model() (m impl.Model) {
	for i, w := range a.calls {
		switch {
		case w.Op == impl.OpCount:
			m.Count++
		case a.over[i]:
		case w.Op == impl.OpPush:
			m.Stack = append([]int{w.Arg}, m.Stack...)
		case w.Op == impl.OpSwap:
			m.Offer = append(m.Offer, w)
		default:
			m.Waiting = append(m.Waiting, w)
		}
	}
	return m
}

// modelRun is a model that is held against its account at every call.
type modelRun struct {
	t *testing.T
	m impl.Model
	a *modelAccount
	// seen counts what the calls came to.
	seen map[modelAnswer]int
}

func newModelRun(t *testing.T) *modelRun {
	return &modelRun{t: t, a: &modelAccount{}, seen: map[modelAnswer]int{}}
}

func (r *modelRun) fork() *modelRun {
	return &modelRun{r.t, clonedModel(r.m), r.a.fork(), r.seen}
}

func (r *modelRun) want(what string) {
	r.t.Helper()
	wantModel(r.t, what, r.m, r.a.model())
	wantModelOK(r.t, what, r.m, true)
	holds, code := false, impl.ErrNone
	for _, w := range r.m.Waiting {
		holds, code = w.Op == impl.OpPut, impl.OK
	}
	wantModelHolds(r.t, what, r.m, holds, code)
}

func (r *modelRun) call(w impl.Waiter) {
	r.t.Helper()
	what := fmt.Sprint(w, " behind ", r.a.last())
	want := r.a.note(w)
	m, got := modelCall(r.t, what, r.m, w)
	if got != want {
		r.t.Errorf("%s: %+v, want %+v", what, got, want)
	}
	r.m = m
	r.seen[modelAnswer{ended: got.ended, code: got.code, who: min(got.who, 0)}]++
	r.want(what)
}

func (r *modelRun) leave(k int) {
	r.t.Helper()
	what := fmt.Sprint(k, " leaves, behind ", r.a.last())
	want := r.a.leave(k)
	m, code := modelLeave(r.t, what, r.m, k)
	wantCode(r.t, what, code, want)
	r.m = m
	r.want(what)
}

// everyModelRun does all that may wait, and who leaves, so many times over in every order.
func everyModelRun(r *modelRun, turns int) int {
	if turns == 0 || r.t.Failed() {
		return 1
	}
	runs := 0
	for k := range 4 {
		value := 10*turns + k
		for _, w := range []impl.Waiter{putBy(k, value), takeBy(k), swapBy(k, value)} {
			next := r.fork()
			next.call(w)
			runs += everyModelRun(next, turns-1)
		}
		next := r.fork()
		next.leave(k)
		runs += everyModelRun(next, turns-1)
	}
	return runs
}

// Promise 11, in all orders of four calls and leaves.
func TestModelInEveryOrder(t *testing.T) {
	r := newModelRun(t)
	if n := everyModelRun(r, 4); n != 65536 {
		t.Error("runs:", n)
	}
	for _, a := range []modelAnswer{{who: -1}, {ended: true}, {code: impl.ErrBusy, who: -1}} {
		if r.seen[a] < 1000 {
			t.Errorf("%+v was seen %d times", a, r.seen[a])
		}
	}
}

// anyCall is a call of any kind, of more pushes than pops where they are to fill the stack.
func anyCall(random *rand.Rand, pushes bool) impl.Waiter {
	k, v := random.Intn(4), random.Intn(1000)
	if pushes && random.Intn(3) > 0 {
		return pushBy(k, v)
	}
	return []impl.Waiter{putBy(k, v), takeBy(k), swapBy(k, v), pushBy(k, v), popBy(k), countBy(k)}[random.Intn(6)]
}

// Promise 11, in long runs of calls of all kinds.
func TestModelInAnyOrder(t *testing.T) {
	seen := map[modelAnswer]int{}
	for seed := range int64(60) {
		random := rand.New(rand.NewSource(seed + 5000))
		r := newModelRun(t)
		turns, pushes := 150, seed%20 == 0
		if pushes {
			turns = 1800
		}
		for range turns {
			if random.Intn(3) == 0 {
				r.leave(random.Intn(4))
			} else {
				r.call(anyCall(random, pushes))
			}
		}
		if t.Failed() {
			t.Fatal("seed", seed)
		}
		for a, n := range r.seen {
			seen[a] += n
		}
	}
	for _, a := range []modelAnswer{
		{who: -1}, {ended: true}, {ended: true, who: -1}, {ended: true, code: impl.ErrEmpty, who: -1},
		{code: impl.ErrBusy, who: -1}, {code: impl.ErrFull, who: -1},
	} {
		if seen[a] < 50 {
			t.Errorf("%+v was seen %d times", a, seen[a])
		}
	}
}

// wantNoTrace leads two models through the same calls of other threads, one
// with w that waits ahead of them, till w is met, or leaves. It tells whether w left.
func wantNoTrace(t *testing.T, random *rand.Rand, m impl.Model, w impl.Waiter) bool {
	t.Helper()
	with, a := modelCall(t, "it comes", m, w)
	if a != (modelAnswer{who: -1}) {
		return false
	}
	without := m
	for range random.Intn(8) {
		c := anyCall(random, false)
		c.Thread = (w.Thread + 1 + random.Intn(3)) % 4
		if random.Intn(4) == 0 {
			with, _ = modelLeave(t, "another one leaves", with, c.Thread)
			without, _ = modelLeave(t, "another one leaves", without, c.Thread)
			continue
		}
		var here, there modelAnswer
		with, here = modelCall(t, "where it waits", with, c)
		if here.ended && here.who == w.Thread {
			return false
		}
		without, there = modelCall(t, "where it does not", without, c)
		if here != there {
			t.Errorf("%+v waits in vain, and %+v is %+v, want %+v", w, c, here, there)
		}
	}
	left, code := modelLeave(t, "it leaves", with, w.Thread)
	wantCode(t, "it leaves", code, impl.OK)
	wantModel(t, "it leaves", left, without)
	wantSameModel(t, "it leaves", left, without, true)
	return true
}

// Promise 11: who leaves is as if it had not come.
func TestWhoLeavesIsAsIfItHadNotCome(t *testing.T) {
	left := map[int]int{}
	for seed := range int64(300) {
		random := rand.New(rand.NewSource(seed + 6000))
		m := impl.Model{}
		for range 30 {
			w := anyCall(random, false)
			if wantNoTrace(t, random, m, w) {
				left[w.Op]++
			}
			m, _ = modelCall(t, "it goes on", m, anyCall(random, false))
			if random.Intn(3) == 0 {
				m, _ = modelLeave(t, "it goes on", m, random.Intn(4))
			}
		}
		if t.Failed() {
			t.Fatal("seed", seed)
		}
	}
	for op := impl.OpPut; op <= impl.OpSwap; op++ {
		if left[op] < 100 {
			t.Error("who left:", left)
		}
	}
}

// sayModel asks all that is told of models, and tells all answers. An empty list and nil are the same value.
func sayModel(m, other impl.Model, w impl.Waiter) string {
	x, ended, code, result, who := impl.ModelCall(m, w)
	s := fmt.Sprintln(impl.ModelOK(m), x, ended, code, result, who)
	x, code = impl.ModelLeave(m, w.Thread)
	holds, code2 := impl.ModelHolds(m)
	return s + fmt.Sprintln(x, code, holds, code2, impl.SameModel(m, other))
}

// Promise 1: alike arguments have alike answers, whatever was asked ahead.
func TestModelCallsDoNotHangOnEarlierOnes(t *testing.T) {
	var models []impl.Model
	for _, list := range []map[string]impl.Model{goodModels(), badModels(), nearly()} {
		for _, m := range list {
			if len(m.Waiting)+len(m.Offer)+len(m.Stack) < impl.MaxList {
				models = append(models, m)
			}
		}
	}
	calls := slices.Concat(everyCall(0), everyCall(3))
	for _, w := range badWaiters() {
		calls = append(calls, w)
	}
	first := map[[2]int]string{}
	for turn := range 2 {
		for i, m := range models {
			for j := range 5 {
				w, other := calls[(3*i+j)%len(calls)], models[(i+j)%len(models)]
				said := sayModel(clonedModel(m), clonedModel(other), w)
				if turn == 0 {
					first[[2]int{i, j}] = said
				}
				if said != first[[2]int{i, j}] {
					t.Errorf("alike arguments, other answers: %+v %+v", m, w)
				}
			}
		}
	}
	empty := goodModels()["empty lists"]
	for _, w := range calls {
		if sayModel(empty, impl.Model{}, w) != sayModel(impl.Model{}, empty, w) {
			t.Error("nil is told from an empty list:", w)
		}
	}
}
