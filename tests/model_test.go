package tests

import (
	"fmt"
	"math"
	"slices"
	"testing"

	"loop.example/g00624/impl"
)

func putBy(k, v int) impl.Waiter  { return impl.Waiter{Thread: k, Op: impl.OpPut, Arg: v} }
func takeBy(k int) impl.Waiter    { return impl.Waiter{Thread: k, Op: impl.OpTake} }
func swapBy(k, v int) impl.Waiter { return impl.Waiter{Thread: k, Op: impl.OpSwap, Arg: v} }
func pushBy(k, v int) impl.Waiter { return impl.Waiter{Thread: k, Op: impl.OpPush, Arg: v} }
func popBy(k int) impl.Waiter     { return impl.Waiter{Thread: k, Op: impl.OpPop} }
func countBy(k int) impl.Waiter   { return impl.Waiter{Thread: k, Op: impl.OpCount} }

// waitingAre is a model with nothing but those who wait.
func waitingAre(list ...impl.Waiter) impl.Model { return impl.Model{Waiting: list} }

func withOffer(m impl.Model, list ...impl.Waiter) impl.Model {
	m.Offer = list
	return m
}

func withStack(m impl.Model, list ...int) impl.Model {
	m.Stack = list
	return m
}

func withCount(m impl.Model, n int) impl.Model {
	m.Count = n
	return m
}

// fourPuts are as many as there are threads, and not in their order.
func fourPuts() []impl.Waiter {
	return []impl.Waiter{putBy(2, 5), putBy(0, 999), putBy(3, 0), putBy(1, 5)}
}

func fourTakes() []impl.Waiter {
	return []impl.Waiter{takeBy(1), takeBy(3), takeBy(0), takeBy(2)}
}

// busyModel has something of everything: thread 0 alone does not wait.
func busyModel() impl.Model {
	return impl.Model{Stack: []int{3}, Count: 7, Waiting: []impl.Waiter{putBy(2, 5), putBy(1, 6)}, Offer: []impl.Waiter{swapBy(3, 8)}}
}

func fullStack() []int { return slices.Repeat([]int{9}, impl.MaxCells) }

// sameModelParts does not ask SameModel, which is one of the calls that are tested.
func sameModelParts(a, b impl.Model) bool {
	return slices.Equal(a.Stack, b.Stack) && a.Count == b.Count &&
		slices.Equal(a.Waiting, b.Waiting) && slices.Equal(a.Offer, b.Offer)
}

func wantModel(t *testing.T, what string, got, want impl.Model) {
	t.Helper()
	if !sameModelParts(got, want) {
		t.Errorf("%s: model\n%+v, want\n%+v", what, got, want)
	}
}

func clonedModel(m impl.Model) impl.Model {
	m.Stack, m.Waiting, m.Offer = slices.Clone(m.Stack), slices.Clone(m.Waiting), slices.Clone(m.Offer)
	return m
}

// roomyModel has room behind the end of each list, which holds what no answer does.
func roomyModel(m impl.Model) impl.Model {
	w := impl.Waiter{Thread: guard}
	m.Stack, m.Waiting, m.Offer = roomy(m.Stack, guard), roomy(m.Waiting, w), roomy(m.Offer, w)
	return m
}

func wantRoomyModel(t *testing.T, what string, given, was impl.Model) {
	t.Helper()
	wantModel(t, what+", the argument", given, was)
	wantRoomLeft(t, what, given.Stack, guard)
	wantRoomLeft(t, what, given.Waiting, impl.Waiter{Thread: guard})
	wantRoomLeft(t, what, given.Offer, impl.Waiter{Thread: guard})
}

// wantOwnMemory: no list of an answer shares memory with another one, nor has
// room behind its end that does.
func wantOwnMemory(t *testing.T, what string, answer impl.Model) {
	t.Helper()
	offer, waits := slices.Clone(answer.Offer), impl.Waiter{Thread: -guard}
	spoil(answer.Stack, -guard)
	spoil(answer.Waiting, waits)
	if !slices.Equal(answer.Offer, offer) {
		t.Errorf("%s: who offers shares memory with who waits", what)
	}
	spoil(answer.Offer, impl.Waiter{Thread: -guard - 1})
	for _, w := range answer.Waiting[:cap(answer.Waiting)] {
		if w != waits {
			t.Errorf("%s: who waits shares memory with who offers", what)
		}
	}
}

// modelAnswer is all that a call of the model answers beside the model.
type modelAnswer struct {
	ended             bool
	code, result, who int
}

// modelDo is ModelCall or ModelLeave, held against promise 1: the argument stays
// as it was, an answer shares no memory with it, nor with another answer, nor
// has it lists that share any, and alike arguments have alike answers.
func modelDo(t *testing.T, what string, m impl.Model, do func(impl.Model) (impl.Model, modelAnswer)) (impl.Model, modelAnswer) {
	t.Helper()
	given := roomyModel(m)
	got, a := do(given)
	other, a2 := do(given)
	if a != a2 || !sameModelParts(got, other) {
		t.Errorf("%s: alike arguments, other answers: %+v %+v and %+v %+v", what, got, a, other, a2)
	}
	kept := clonedModel(got)
	wantOwnMemory(t, what, other)
	wantModel(t, what+", an answer behind another one", got, kept)
	wantRoomyModel(t, what, given, m)
	return got, a
}

func modelCall(t *testing.T, what string, m impl.Model, w impl.Waiter) (impl.Model, modelAnswer) {
	t.Helper()
	return modelDo(t, what, m, func(m impl.Model) (impl.Model, modelAnswer) {
		x, ended, code, result, who := impl.ModelCall(m, w)
		return x, modelAnswer{ended, code, result, who}
	})
}

func modelLeave(t *testing.T, what string, m impl.Model, thread int) (impl.Model, int) {
	t.Helper()
	x, a := modelDo(t, what, m, func(m impl.Model) (impl.Model, modelAnswer) {
		x, code := impl.ModelLeave(m, thread)
		return x, modelAnswer{code: code}
	})
	return x, a.code
}

func wantModelOK(t *testing.T, what string, m impl.Model, want bool) {
	t.Helper()
	given := roomyModel(m)
	if got := impl.ModelOK(given); got != want {
		t.Errorf("%s: ModelOK is %v: %+v", what, got, m)
	}
	wantRoomyModel(t, what, given, m)
}

// wantModelCall is of a model and a call that are right.
func wantModelCall(t *testing.T, what string, m impl.Model, w impl.Waiter, want modelAnswer, then impl.Model) {
	t.Helper()
	wantModelOK(t, what+", ahead of the call", m, true)
	got, a := modelCall(t, what, m, w)
	if a != want {
		t.Errorf("%s: %+v of %+v is %+v, want %+v", what, w, m, a, want)
	}
	wantModel(t, what, got, then)
	wantModelOK(t, what+", behind the call", got, true)
}

func wantWaits(t *testing.T, what string, m impl.Model, w impl.Waiter, then impl.Model) {
	t.Helper()
	wantModelCall(t, what, m, w, modelAnswer{who: -1}, then)
}

func wantEnds(t *testing.T, what string, m impl.Model, w impl.Waiter, result, who int, then impl.Model) {
	t.Helper()
	wantModelCall(t, what, m, w, modelAnswer{ended: true, result: result, who: who}, then)
}

func wantAsItWas(t *testing.T, what string, m impl.Model, w impl.Waiter, code int) {
	t.Helper()
	wantModelCall(t, what, m, w, modelAnswer{code: code, who: -1}, m)
}

// wantBadCall: all is zero with ErrBad, whose call it ended too.
func wantBadCall(t *testing.T, what string, m impl.Model, w impl.Waiter) {
	t.Helper()
	got, a := modelCall(t, what, m, w)
	if want := (modelAnswer{code: impl.ErrBad}); a != want {
		t.Errorf("%s: %+v of %+v is %+v, want %+v", what, w, m, a, want)
	}
	wantModel(t, what, got, impl.Model{})
}

func wantLeaves(t *testing.T, what string, m impl.Model, thread, code int, then impl.Model) {
	t.Helper()
	got, c := modelLeave(t, what, m, thread)
	wantCode(t, what, c, code)
	wantModel(t, what, got, then)
	wantModelOK(t, what, got, true)
}

func wantModelHolds(t *testing.T, what string, m impl.Model, want bool, wantedCode int) {
	t.Helper()
	given := roomyModel(m)
	if got, code := impl.ModelHolds(given); got != want || code != wantedCode {
		t.Errorf("%s: ModelHolds is %v %d, want %v %d: %+v", what, got, code, want, wantedCode, m)
	}
	wantRoomyModel(t, what, given, m)
}

// goodModels have none, one, and as many of everything as there may be.
func goodModels() map[string]impl.Model {
	all := map[string]impl.Model{
		"at first":            {},
		"empty lists":         {Stack: []int{}, Waiting: []impl.Waiter{}, Offer: []impl.Waiter{}},
		"values on the stack": {Stack: []int{0, 999, 5, 5}},
		"a full stack":        {Stack: fullStack()},
		"counts":              {Count: 1},
		"the last count":      {Count: impl.MaxWord},
		"something of all":    busyModel(),
		"all is full":         withOffer(withCount(withStack(waitingAre(takeBy(3), takeBy(2), takeBy(0)), fullStack()...), impl.MaxWord), swapBy(1, 999)),
		"puts of one value":   waitingAre(putBy(0, 5), putBy(1, 5)),
		"a put of 0":          waitingAre(putBy(3, 0)),
		"a put of 999":        waitingAre(putBy(0, 999)),
		"an offer beside all": withOffer(waitingAre(putBy(0, 1), putBy(3, 2), putBy(2, 3)), swapBy(1, 0)),
	}
	for n := 1; n <= 4; n++ {
		all[fmt.Sprint("puts: ", n)] = waitingAre(fourPuts()[:n]...)
		all[fmt.Sprint("takes: ", n)] = waitingAre(fourTakes()[:n]...)
		all[fmt.Sprint("an offer of ", n-1)] = withOffer(impl.Model{}, swapBy(n-1, 333*(n-1)))
	}
	return all
}

// badWaiters are no right waiters, whatever they are to wait for.
func badWaiters() map[string]impl.Waiter {
	all := map[string]impl.Waiter{
		"nothing":        {},
		"a thread below": putBy(-1, 5),
		"a thread above": putBy(4, 5),
		"a put of -1":    putBy(2, -1),
		"a put of 1000":  putBy(2, 1000),
		"a swap of -1":   swapBy(2, -1),
		"a swap of 1000": swapBy(2, 1000),
		"a push of -1":   pushBy(2, -1),
		"a push of 1000": pushBy(2, 1000),
		"a take of 1":    {Thread: 2, Op: impl.OpTake, Arg: 1},
		"a take of -1":   {Thread: 2, Op: impl.OpTake, Arg: -1},
		"a pop of 1":     {Thread: 2, Op: impl.OpPop, Arg: 1},
		"a count of 1":   {Thread: 2, Op: impl.OpCount, Arg: 1},
		"the call -1":    {Thread: 2, Op: -1},
		"the call 0":     {Thread: 2},
		"the call 7":     {Thread: 2, Op: 7},
	}
	for _, far := range farNumbers {
		all[fmt.Sprint("a far thread ", far)] = takeBy(far)
		all[fmt.Sprint("a far call ", far)] = impl.Waiter{Thread: 2, Op: far}
		all[fmt.Sprint("a far put ", far)] = putBy(2, far)
		all[fmt.Sprint("a far take ", far)] = impl.Waiter{Thread: 2, Op: impl.OpTake, Arg: far}
		all[fmt.Sprint("a far swap ", far)] = swapBy(2, far)
	}
	return all
}

// badModels are not right for one reason each.
func badModels() map[string]impl.Model {
	all := map[string]impl.Model{
		"a value more than MaxCells": {Stack: slices.Repeat([]int{0}, impl.MaxCells+1)},
		"a stack too long":           {Stack: make([]int, impl.MaxList+1)},
		"a count below":              {Count: -1},
		"a count above":              {Count: impl.MaxWord + 1},
		"a put and a take":           waitingAre(putBy(0, 5), takeBy(1)),
		"a take and a put":           waitingAre(takeBy(0), putBy(1, 5)),
		"a take behind puts":         waitingAre(putBy(0, 5), putBy(1, 5), putBy(2, 5), takeBy(3)),
		"a put behind takes":         waitingAre(takeBy(0), takeBy(1), takeBy(2), putBy(3, 5)),
		"a swap waits":               waitingAre(swapBy(0, 5)),
		"swaps wait":                 waitingAre(swapBy(0, 5), swapBy(1, 6)),
		"a swap behind a put":        waitingAre(putBy(0, 5), swapBy(1, 5)),
		"a put behind a swap":        waitingAre(swapBy(0, 5), putBy(1, 5)),
		"a push waits":               waitingAre(pushBy(0, 5)),
		"a pop waits":                waitingAre(popBy(0)),
		"a count waits":              waitingAre(countBy(0)),
		"a pop behind a take":        waitingAre(takeBy(0), popBy(1)),
		"two offers":                 withOffer(impl.Model{}, swapBy(0, 5), swapBy(1, 6)),
		"two alike offers":           withOffer(impl.Model{}, swapBy(0, 5), swapBy(0, 5)),
		"more offers than a list":    withOffer(impl.Model{}, slices.Repeat([]impl.Waiter{swapBy(0, 5)}, impl.MaxList+1)...),
		"a put offers":               withOffer(impl.Model{}, putBy(0, 5)),
		"a take offers":              withOffer(impl.Model{}, takeBy(0)),
		"a push offers":              withOffer(impl.Model{}, pushBy(0, 5)),
		"a pop offers":               withOffer(impl.Model{}, popBy(0)),
		"a count offers":             withOffer(impl.Model{}, countBy(0)),
		"a thread puts twice":        waitingAre(putBy(2, 5), putBy(2, 6)),
		"a thread puts twice, alike": waitingAre(putBy(2, 5), putBy(2, 5)),
		"a thread takes twice":       waitingAre(takeBy(3), takeBy(3)),
		"the first and the last one": waitingAre(putBy(1, 5), putBy(0, 6), putBy(3, 7), putBy(1, 8)),
		"five wait":                  waitingAre(append(fourTakes(), takeBy(0))...),
		"more wait than a list has":  waitingAre(slices.Repeat(fourPuts(), impl.MaxList)...),
		"the first offers too":       withOffer(waitingAre(putBy(0, 5), putBy(1, 6)), swapBy(0, 5)),
		"the last offers too":        withOffer(waitingAre(takeBy(0), takeBy(1)), swapBy(1, 5)),
		"who offers waits, too":      withOffer(waitingAre(fourPuts()...), swapBy(3, 5)),
	}
	for _, v := range append([]int{-1, 1000}, farNumbers...) {
		all[fmt.Sprint("a value ", v)] = withStack(impl.Model{}, v)
		all[fmt.Sprint("a value on the top ", v)] = withStack(impl.Model{}, v, 5, 6)
		all[fmt.Sprint("a value at the bottom ", v)] = withStack(impl.Model{}, 5, 6, v)
		all[fmt.Sprint("a value of MaxCells ", v)] = withStack(impl.Model{}, append(fullStack()[1:], v)...)
	}
	for _, n := range farNumbers {
		all[fmt.Sprint("a far count ", n)] = withCount(impl.Model{}, n)
	}
	for name, w := range badWaiters() {
		all[name+" waits"] = waitingAre(w)
		all[name+" waits behind a put"] = waitingAre(putBy(0, 1), w)
		all[name+" waits ahead of a take"] = waitingAre(w, takeBy(0))
		all[name+" offers"] = withOffer(impl.Model{}, w)
		all[name+" offers beside a put"] = withOffer(waitingAre(putBy(0, 1)), w)
	}
	return all
}

func TestModelOK(t *testing.T) {
	for name, m := range goodModels() {
		wantModelOK(t, name, m, true)
	}
	for name, m := range badModels() {
		wantModelOK(t, name, m, false)
		m.Stack = append(slices.Clone(m.Stack), 5)
		wantModelOK(t, name+", with a value more", m, false)
	}
}

// Every one, two and three that wait or offer, of all threads and kinds of calls.
func TestModelOKOfEveryThree(t *testing.T) {
	all := func(yield func(impl.Waiter) bool) {
		for k := range 4 {
			for op := impl.OpPut; op <= impl.OpCount; op++ {
				if !yield(impl.Waiter{Thread: k, Op: op}) {
					return
				}
			}
		}
	}
	mayLine := func(op int) bool { return op == impl.OpPut || op == impl.OpTake }
	for a := range all {
		wantModelOK(t, "one waits", waitingAre(a), mayLine(a.Op))
		wantModelOK(t, "one offers", withOffer(impl.Model{}, a), a.Op == impl.OpSwap)
		for b := range all {
			two := mayLine(a.Op) && a.Op == b.Op && a.Thread != b.Thread
			wantModelOK(t, "two wait", waitingAre(a, b), two)
			wantModelOK(t, "two offer", withOffer(impl.Model{}, a, b), false)
			wantModelOK(t, "one waits, one offers", withOffer(waitingAre(a), b), mayLine(a.Op) && b.Op == impl.OpSwap && a.Thread != b.Thread)
			for c := range all {
				other := c.Thread != a.Thread && c.Thread != b.Thread
				wantModelOK(t, "three wait", waitingAre(a, b, c), two && c.Op == a.Op && other)
				wantModelOK(t, "two wait, one offers", withOffer(waitingAre(a, b), c), two && c.Op == impl.OpSwap && other)
			}
		}
	}
}

// Nobody waits for it: a put and a take wait behind the others.
func TestPutsAndTakesWait(t *testing.T) {
	for n := range 4 {
		puts, takes := fourPuts(), fourTakes()
		wantWaits(t, fmt.Sprint("a put behind ", n), waitingAre(puts[:n]...), puts[n], waitingAre(puts[:n+1]...))
		wantWaits(t, fmt.Sprint("a take behind ", n), waitingAre(takes[:n]...), takes[n], waitingAre(takes[:n+1]...))
	}
	for _, v := range []int{0, 1, 998, 999} {
		for k := range 4 {
			wantWaits(t, "a put", impl.Model{}, putBy(k, v), waitingAre(putBy(k, v)))
			wantWaits(t, "a swap", impl.Model{}, swapBy(k, v), withOffer(impl.Model{}, swapBy(k, v)))
		}
	}
	m := busyModel()
	then := busyModel()
	then.Waiting = append(then.Waiting, putBy(0, 5))
	wantWaits(t, "a put of a value that waits", m, putBy(0, 5), then)
	wantWaits(t, "a put beside an offer", withOffer(impl.Model{}, swapBy(2, 5)), putBy(0, 5), withOffer(waitingAre(putBy(0, 5)), swapBy(2, 5)))
	wantWaits(t, "a take beside an offer", withOffer(impl.Model{}, swapBy(2, 5)), takeBy(0), withOffer(waitingAre(takeBy(0)), swapBy(2, 5)))
	wantWaits(t, "a put where the stack has values", withStack(impl.Model{}, 5), putBy(1, 6), withStack(waitingAre(putBy(1, 6)), 5))
	wantWaits(t, "a take where the stack has values", withStack(impl.Model{}, 5), takeBy(1), withStack(waitingAre(takeBy(1)), 5))
	wantWaits(t, "a swap beside takes", waitingAre(takeBy(1), takeBy(0)), swapBy(2, 5), withOffer(waitingAre(takeBy(1), takeBy(0)), swapBy(2, 5)))
	wantWaits(t, "a swap beside puts", waitingAre(putBy(1, 5)), swapBy(2, 5), withOffer(waitingAre(putBy(1, 5)), swapBy(2, 5)))
}

// Promise 11: puts and takes meet, the first that waits ahead of the others, both with the value.
func TestPutsAndTakesMeet(t *testing.T) {
	puts, takes := fourPuts(), fourTakes()
	for n := 1; n < 4; n++ {
		wantEnds(t, fmt.Sprint("a take, puts: ", n), waitingAre(puts[:n]...), takeBy(1), 5, 2, waitingAre(puts[1:n]...))
		wantEnds(t, fmt.Sprint("a put, takes: ", n), waitingAre(takes[:n]...), putBy(2, 7), 7, 1, waitingAre(takes[1:n]...))
	}
	for _, v := range []int{0, 1, 998, 999} {
		wantEnds(t, "a take of one", waitingAre(putBy(3, v)), takeBy(0), v, 3, impl.Model{})
		wantEnds(t, "a put to one", waitingAre(takeBy(3)), putBy(0, v), v, 3, impl.Model{})
	}
	m := waitingAre(putBy(3, 9), putBy(0, 8), putBy(1, 7))
	wantEnds(t, "not the least thread, nor the least value", m, takeBy(2), 9, 3, waitingAre(putBy(0, 8), putBy(1, 7)))
	wantEnds(t, "not the last one", waitingAre(takeBy(2), takeBy(3), takeBy(1)), putBy(0, 4), 4, 2, waitingAre(takeBy(3), takeBy(1)))
	m = busyModel()
	then := busyModel()
	then.Waiting = then.Waiting[1:]
	wantEnds(t, "nothing else changes", m, takeBy(0), 5, 2, then)
	wantEnds(t, "who ended takes at once", then, takeBy(2), 6, 1, impl.Model{Stack: []int{3}, Count: 7, Offer: m.Offer})
}

// All four, one after the other: who came first is served first, and may come again.
func TestWhoWaitsIsServedInOrder(t *testing.T) {
	m := impl.Model{}
	for _, w := range fourPuts()[:3] {
		m, _ = modelCall(t, "puts", m, w)
	}
	for i, w := range fourPuts()[:3] {
		wantEnds(t, fmt.Sprint("take ", i), m, takeBy(1), w.Arg, w.Thread, waitingAre(m.Waiting[1:]...))
		m, _ = modelCall(t, "takes", m, takeBy(1))
	}
	m = waitingAre(takeBy(3), takeBy(0))
	m, _ = modelCall(t, "a put", m, putBy(1, 5))
	m, _ = modelCall(t, "who ended takes again", m, takeBy(3))
	wantModel(t, "who comes again is the last one", m, waitingAre(takeBy(0), takeBy(3)))
	wantEnds(t, "a put", m, putBy(1, 6), 6, 0, waitingAre(takeBy(3)))
}

// Promise 11: swaps meet in pairs, each with the other one's value.
func TestModelSwaps(t *testing.T) {
	for _, v := range []int{0, 1, 998, 999} {
		m := withOffer(impl.Model{}, swapBy(3, v))
		wantEnds(t, "two swap", m, swapBy(0, 500), v, 3, impl.Model{})
		wantEnds(t, "two swap a value alike", m, swapBy(2, v), v, 3, impl.Model{})
	}
	m := busyModel()
	wantEnds(t, "nothing else changes", m, swapBy(0, 5), 8, 3, withOffer(m))
	m, _ = modelCall(t, "two swap", m, swapBy(0, 5))
	wantWaits(t, "the third one offers", m, swapBy(3, 1), withOffer(m, swapBy(3, 1)))
	m, _ = modelCall(t, "the third one offers", m, swapBy(3, 1))
	wantEnds(t, "the fourth one ends it", m, swapBy(0, 2), 1, 3, withOffer(m))
}

// Puts, takes and the stack leave the offer alone, and the other way round.
func TestCallsOfOtherKindsDoNotMeet(t *testing.T) {
	offer := withOffer(impl.Model{}, swapBy(3, 8))
	wantEnds(t, "a push", offer, pushBy(0, 5), 5, -1, withStack(offer, 5))
	wantModelCall(t, "a pop", offer, popBy(0), modelAnswer{ended: true, code: impl.ErrEmpty, who: -1}, offer)
	wantEnds(t, "a count", offer, countBy(0), 0, -1, withCount(offer, 1))
	for _, m := range []impl.Model{waitingAre(fourTakes()[:3]...), waitingAre(putBy(1, 6), putBy(3, 7), putBy(0, 7))} {
		wantEnds(t, "a push", m, pushBy(2, 5), 5, -1, withStack(m, 5))
		wantModelCall(t, "a pop", m, popBy(2), modelAnswer{ended: true, code: impl.ErrEmpty, who: -1}, m)
		wantEnds(t, "a count", m, countBy(2), 0, -1, withCount(m, 1))
		wantWaits(t, "a swap", m, swapBy(2, 5), withOffer(m, swapBy(2, 5)))
	}
}

func TestModelStack(t *testing.T) {
	m := impl.Model{}
	for _, v := range []int{0, 999, 5, 5, 7} {
		wantEnds(t, "a push", m, pushBy(v%4, v), v, -1, withStack(m, append([]int{v}, m.Stack...)...))
		m, _ = modelCall(t, "a push", m, pushBy(v%4, v))
	}
	for _, v := range []int{7, 5, 5, 999, 0} {
		wantEnds(t, "a pop", m, popBy(v%4), v, -1, withStack(m, m.Stack[1:]...))
		m, _ = modelCall(t, "a pop", m, popBy(v%4))
	}
	for k := range 4 {
		wantModelCall(t, "a pop of nothing", m, popBy(k), modelAnswer{ended: true, code: impl.ErrEmpty, who: -1}, m)
	}
	most := fullStack()
	least := most[1:]
	wantEnds(t, "the last one that has room", withStack(impl.Model{}, least...), pushBy(0, 3), 3, -1, withStack(impl.Model{}, append([]int{3}, least...)...))
	wantAsItWas(t, "one more", withStack(impl.Model{}, most...), pushBy(0, 3), impl.ErrFull)
	wantEnds(t, "a pop makes room", withStack(impl.Model{}, append([]int{4}, least...)...), popBy(0), 4, -1, withStack(impl.Model{}, least...))
}

// A pop of nothing changes nothing else either.
func TestPopOfNothing(t *testing.T) {
	m := busyModel()
	m.Stack = nil
	wantModelCall(t, "a pop of nothing", m, popBy(0), modelAnswer{ended: true, code: impl.ErrEmpty, who: -1}, m)
	m = withCount(waitingAre(takeBy(3)), impl.MaxWord)
	wantModelCall(t, "a pop of nothing", m, popBy(1), modelAnswer{ended: true, code: impl.ErrEmpty, who: -1}, m)
}

func TestModelCounts(t *testing.T) {
	for _, n := range []int{0, 1, 2, 7, impl.MaxWord - 2, impl.MaxWord - 1} {
		wantEnds(t, "a count", withCount(impl.Model{}, n), countBy(n%4), n, -1, withCount(impl.Model{}, n+1))
		wantEnds(t, "a count beside all else", withCount(busyModel(), n), countBy(0), n, -1, withCount(busyModel(), n+1))
	}
	wantAsItWas(t, "no more counts", withCount(impl.Model{}, impl.MaxWord), countBy(0), impl.ErrFull)
	wantAsItWas(t, "no more counts, all else is there", withCount(busyModel(), impl.MaxWord), countBy(0), impl.ErrFull)
}

// Where one has no room, all others go on.
func TestWhatNeedsNoRoom(t *testing.T) {
	m := withCount(withStack(impl.Model{}, fullStack()...), impl.MaxWord)
	wantAsItWas(t, "a push", m, pushBy(1, 5), impl.ErrFull)
	wantAsItWas(t, "a count", m, countBy(1), impl.ErrFull)
	wantEnds(t, "a pop", m, popBy(1), 9, -1, withStack(m, fullStack()[1:]...))
	for _, w := range []impl.Waiter{putBy(1, 5), takeBy(2)} {
		then := m
		then.Waiting = []impl.Waiter{w}
		wantWaits(t, "a put or a take", m, w, then)
	}
	wantWaits(t, "a swap", m, swapBy(3, 5), withOffer(m, swapBy(3, 5)))
	m.Waiting, m.Offer = []impl.Waiter{takeBy(0)}, []impl.Waiter{swapBy(2, 4)}
	then := m
	then.Waiting = nil
	wantEnds(t, "a put that meets", m, putBy(1, 5), 5, 0, then)
	wantEnds(t, "a swap that meets", m, swapBy(1, 5), 4, 2, withOffer(m))
	wantEnds(t, "a count, the stack is full", withStack(impl.Model{}, fullStack()...), countBy(1), 0, -1, withCount(withStack(impl.Model{}, fullStack()...), 1))
	wantEnds(t, "a push, no more counts", withCount(impl.Model{}, impl.MaxWord), pushBy(1, 5), 5, -1, withStack(withCount(impl.Model{}, impl.MaxWord), 5))
}

// everyCall is one of each kind, of a thread.
func everyCall(k int) []impl.Waiter {
	return []impl.Waiter{putBy(k, 5), takeBy(k), swapBy(k, 5), pushBy(k, 5), popBy(k), countBy(k)}
}

// A call of a thread that waits: it is busy ahead of all else that the call might come to.
func TestWhoWaitsIsBusy(t *testing.T) {
	models := []impl.Model{busyModel(), withOffer(waitingAre(takeBy(3), takeBy(1)), swapBy(2, 1)), waitingAre(fourTakes()...), waitingAre(fourPuts()...)}
	for _, m := range slices.Clone(models) {
		models = append(models, withCount(withStack(m, fullStack()...), impl.MaxWord), withCount(withStack(m), 0))
	}
	for _, m := range models {
		for _, w := range slices.Concat(m.Waiting, m.Offer) {
			for _, c := range everyCall(w.Thread) {
				wantAsItWas(t, "a thread that waits", m, c, impl.ErrBusy)
			}
			wantAsItWas(t, "its own call once more", m, w, impl.ErrBusy)
		}
	}
	wantAsItWas(t, "who offers does not swap with itself", withOffer(impl.Model{}, swapBy(0, 5)), swapBy(0, 5), impl.ErrBusy)
	wantAsItWas(t, "who puts does not take from itself", waitingAre(putBy(0, 5)), takeBy(0), impl.ErrBusy)
	wantAsItWas(t, "who takes does not put to itself", waitingAre(takeBy(0)), putBy(0, 5), impl.ErrBusy)
}

// ErrBad is ahead of all other codes, and of all that the call might come to.
func TestModelCallFaults(t *testing.T) {
	for name, m := range badModels() {
		for k := range 4 {
			for _, w := range everyCall(k) {
				wantBadCall(t, name, m, w)
			}
		}
		wantBadCall(t, name+", a call that is bad too", m, impl.Waiter{})
	}
	models := goodModels()
	models["no room"] = withCount(withStack(impl.Model{}, fullStack()...), impl.MaxWord)
	for name, m := range models {
		for what, w := range badWaiters() {
			wantBadCall(t, name+", "+what, m, w)
		}
	}
	twice := withStack(waitingAre(putBy(0, 5), putBy(0, 5)), fullStack()...)
	wantBadCall(t, "a thread that waits twice, a push without room", twice, pushBy(0, 5))
	wantBadCall(t, "a thread that waits, with a bad call", busyModel(), putBy(2, 1000))
}

func TestModelLeave(t *testing.T) {
	puts, takes := fourPuts(), fourTakes()
	without := func(list []impl.Waiter, i int) impl.Model {
		return waitingAre(slices.Concat(list[:i], list[i+1:])...)
	}
	for n := 1; n <= 4; n++ {
		for i := range n {
			what := fmt.Sprint(i, " of ", n)
			wantLeaves(t, "a put, "+what, waitingAre(puts[:n]...), puts[i].Thread, impl.OK, without(puts[:n], i))
			wantLeaves(t, "a take, "+what, waitingAre(takes[:n]...), takes[i].Thread, impl.OK, without(takes[:n], i))
		}
	}
	for k := range 4 {
		wantLeaves(t, "who offers, alone", withOffer(impl.Model{}, swapBy(k, 5)), k, impl.OK, impl.Model{})
		wantLeaves(t, "who waits, alone", waitingAre(takeBy(k)), k, impl.OK, impl.Model{})
	}
	m := busyModel()
	wantLeaves(t, "who offers", m, 3, impl.OK, withOffer(m))
	wantLeaves(t, "who waits as the first", m, 2, impl.OK, impl.Model{Stack: m.Stack, Count: 7, Waiting: m.Waiting[1:], Offer: m.Offer})
	wantLeaves(t, "who waits as the last", m, 1, impl.OK, impl.Model{Stack: m.Stack, Count: 7, Waiting: m.Waiting[:1], Offer: m.Offer})
	m = withCount(withStack(m, fullStack()...), impl.MaxWord)
	wantLeaves(t, "who offers, no room", m, 3, impl.OK, withOffer(m))
}

// A thread that does not wait, and a number that is no thread's: nothing changes.
func TestModelLeaveOfOthers(t *testing.T) {
	for name, m := range goodModels() {
		others := slices.Concat([]int{-2, -1, 0, 1, 2, 3, 4, 5, 999}, farNumbers)
		for _, w := range slices.Concat(m.Waiting, m.Offer) {
			others = slices.DeleteFunc(others, func(k int) bool { return k == w.Thread })
		}
		for _, k := range others {
			wantLeaves(t, fmt.Sprint(name, ", ", k, " does not wait"), m, k, impl.ErrIdle, m)
		}
	}
	m, _ := modelLeave(t, "who left", busyModel(), 2)
	wantLeaves(t, "who left does not wait", m, 2, impl.ErrIdle, m)
	m, _ = modelCall(t, "who was served", busyModel(), takeBy(0))
	wantLeaves(t, "who was served does not wait", m, 2, impl.ErrIdle, m)
	wantLeaves(t, "who took does not wait", m, 0, impl.ErrIdle, m)
}

func TestModelLeaveOfBadModels(t *testing.T) {
	for name, m := range badModels() {
		for _, k := range []int{-1, 0, 1, 2, 3, 4, math.MinInt, math.MaxInt} {
			got, code := modelLeave(t, name, m, k)
			wantCode(t, name, code, impl.ErrBad)
			wantModel(t, name, got, impl.Model{})
		}
	}
}

func TestModelHolds(t *testing.T) {
	for n := 1; n <= 4; n++ {
		wantModelHolds(t, fmt.Sprint("puts: ", n), waitingAre(fourPuts()[:n]...), true, impl.OK)
		wantModelHolds(t, fmt.Sprint("takes: ", n), waitingAre(fourTakes()[:n]...), false, impl.OK)
	}
	wantModelHolds(t, "nobody", impl.Model{}, false, impl.ErrNone)
	wantModelHolds(t, "nobody, in an empty list", impl.Model{Waiting: []impl.Waiter{}}, false, impl.ErrNone)
	wantModelHolds(t, "nobody, all else is there", withCount(withStack(impl.Model{}, 5), 3), false, impl.ErrNone)
	for k := range 4 {
		wantModelHolds(t, "an offer alone", withOffer(impl.Model{}, swapBy(k, 5)), false, impl.ErrNone)
	}
	wantModelHolds(t, "puts beside all else", busyModel(), true, impl.OK)
	wantModelHolds(t, "takes beside an offer", withOffer(waitingAre(takeBy(2)), swapBy(0, 5)), false, impl.OK)
	wantModelHolds(t, "a put of 0", waitingAre(putBy(0, 0)), true, impl.OK)
	for name, m := range badModels() {
		wantModelHolds(t, name, m, false, impl.ErrBad)
	}
}

func wantSameModel(t *testing.T, what string, a, b impl.Model, want bool) {
	t.Helper()
	x, y := roomyModel(a), roomyModel(b)
	if got := impl.SameModel(x, y); got != want {
		t.Errorf("%s: SameModel is %v: %+v and %+v", what, got, a, b)
	}
	if got := impl.SameModel(y, x); got != want {
		t.Errorf("%s, the other way: SameModel is %v: %+v and %+v", what, got, b, a)
	}
	wantRoomyModel(t, what, x, a)
	wantRoomyModel(t, what, y, b)
}

// nearly are models that are right, and unlike busyModel in one thing each.
func nearly() map[string]impl.Model {
	m := busyModel()
	with := func(change func(*impl.Model)) impl.Model {
		x := clonedModel(m)
		change(&x)
		return x
	}
	return map[string]impl.Model{
		"another value":           withStack(m, 4),
		"a value more":            withStack(m, 3, 3),
		"a value more on the top": withStack(m, 0, 3),
		"no values":               withStack(m),
		"another count":           withCount(m, 8),
		"no count":                withCount(m, 0),
		"another first put":       with(func(x *impl.Model) { x.Waiting[0].Arg = 4 }),
		"another last put":        with(func(x *impl.Model) { x.Waiting[1].Arg = 5 }),
		"another first thread":    with(func(x *impl.Model) { x.Waiting[0].Thread = 0 }),
		"another last thread":     with(func(x *impl.Model) { x.Waiting[1].Thread = 0 }),
		"another order":           with(func(x *impl.Model) { slices.Reverse(x.Waiting) }),
		"the first one alone":     with(func(x *impl.Model) { x.Waiting = x.Waiting[:1] }),
		"the last one alone":      with(func(x *impl.Model) { x.Waiting = x.Waiting[1:] }),
		"one more":                with(func(x *impl.Model) { x.Waiting = append(x.Waiting, putBy(0, 5)) }),
		"nobody":                  with(func(x *impl.Model) { x.Waiting = nil }),
		"takes":                   with(func(x *impl.Model) { x.Waiting = []impl.Waiter{takeBy(2), takeBy(1)} }),
		"another offer":           withOffer(m, swapBy(3, 7)),
		"an offer of another":     withOffer(m, swapBy(0, 8)),
		"no offer":                withOffer(m),
	}
}

func TestSameModel(t *testing.T) {
	for name, m := range goodModels() {
		wantSameModel(t, name, m, clonedModel(m), true)
		for other, x := range goodModels() {
			if name != other && !sameModelParts(m, x) {
				wantSameModel(t, name+" and "+other, m, x, false)
			}
		}
		for other, x := range badModels() {
			wantSameModel(t, name+" and "+other, m, x, false)
		}
	}
	for name, m := range badModels() {
		wantSameModel(t, name, m, clonedModel(m), false)
	}
	near := nearly()
	near["as it is"] = busyModel()
	for name, m := range near {
		for other, x := range near {
			wantSameModel(t, name+" and "+other, m, x, name == other)
		}
	}
	wantSameModel(t, "nil and empty", goodModels()["at first"], goodModels()["empty lists"], true)
	swapped := withStack(impl.Model{}, 5, 7)
	wantSameModel(t, "another order on the stack", swapped, withStack(impl.Model{}, 7, 5), false)
	wantSameModel(t, "a put and a take of 0", waitingAre(putBy(0, 0)), waitingAre(takeBy(0)), false)
}
