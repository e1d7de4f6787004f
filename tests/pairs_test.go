package tests

import (
	"fmt"
	"slices"
	"testing"

	"loop.example/g00624/impl"
)

// callOver is a call of thread 0 that ended well, or is under way where to is 0.
func callOver(op, arg, result, from, to int) impl.Call {
	c := impl.Call{Op: op, Arg: arg, From: from, To: to}
	if to > 0 {
		c.Result = result
	}
	return c
}

func putOver(v, from, to int) impl.Call       { return callOver(impl.OpPut, v, v, from, to) }
func takeOver(got, from, to int) impl.Call    { return callOver(impl.OpTake, 0, got, from, to) }
func swapOver(v, got, from, to int) impl.Call { return callOver(impl.OpSwap, v, got, from, to) }
func pushOver(v, from, to int) impl.Call      { return callOver(impl.OpPush, v, v, from, to) }
func popOver(got, from, to int) impl.Call     { return callOver(impl.OpPop, 0, got, from, to) }
func countOver(got, from, to int) impl.Call   { return callOver(impl.OpCount, 0, got, from, to) }

func byThread(k int, c impl.Call) impl.Call {
	c.Thread = k
	return c
}

func withResult(c impl.Call, result int) impl.Call {
	c.Result = result
	return c
}

func failedCall(c impl.Call, code int) impl.Call {
	c.Code, c.Result = code, 0
	return c
}

// failedWith has a result, which no events lead to.
func failedWith(c impl.Call, code, result int) impl.Call {
	c.Code, c.Result = code, result
	return c
}

// lying is a machine's cells with these values on the stack, from the top on.
func lying(values ...int) []int {
	cells := emptyTree()
	for _, v := range slices.Backward(values) {
		top := len(cells)
		cells = append(cells, v, cells[impl.StackTop])
		cells[impl.StackTop] = top
	}
	return cells
}

// said is what a call with a bool and a code answers.
type said struct {
	is   bool
	code int
}

var (
	yes    = said{true, impl.OK}
	no     = said{false, impl.OK}
	noPair = said{false, impl.ErrPair}
)

// verdict is what all calls of the chapter say of a machine.
type verdict struct{ once, queue, swaps, stack, counts said }

var allTrue = verdict{yes, yes, yes, yes, yes}

// pairCalls are the calls that are given a machine.
func pairCalls() map[string]func(impl.Machine) (bool, int) {
	return map[string]func(impl.Machine) (bool, int){
		"ValuesOnce": impl.ValuesOnce, "QueueTrue": impl.QueueTrue, "SwapsTrue": impl.SwapsTrue,
		"StackTrue": impl.StackTrue, "CountsTrue": impl.CountsTrue,
	}
}

func verdictOf(m impl.Machine) (v verdict) {
	say := func(is bool, code int) said { return said{is, code} }
	v.once = say(impl.ValuesOnce(m))
	v.queue = say(impl.QueueTrue(m))
	v.swaps = say(impl.SwapsTrue(m))
	v.stack = say(impl.StackTrue(m))
	v.counts = say(impl.CountsTrue(m))
	return v
}

func wantVerdict(t *testing.T, what string, m impl.Machine, want verdict) {
	t.Helper()
	wantMachineOK(t, what, m, true)
	if got := verdictOf(m); got != want {
		t.Errorf("%s: %+v, want %+v, of %v", what, got, want, m.Calls)
	}
}

// wantSaid is of machines with values that are there once.
func wantSaid(t *testing.T, what string, m impl.Machine, call func(impl.Machine) (bool, int), want bool) {
	t.Helper()
	wantMachineOK(t, what, m, true)
	if is, code := call(m); is != want || code != impl.OK {
		t.Errorf("%s: %v %d, want %v, of %v and %v", what, is, code, want, m.Calls, m.Arena)
	}
	if once, code := impl.ValuesOnce(m); !once || code != impl.OK {
		t.Errorf("%s: ValuesOnce is %v %d of %v", what, once, code, m.Calls)
	}
}

// wantOnce: of calls that are there once or not, and that say nothing else that is not true.
func wantOnce(t *testing.T, what string, want bool, calls ...impl.Call) {
	t.Helper()
	m := historyOf(calls...)
	wantMachineOK(t, what, m, true)
	if got, code := impl.ValuesOnce(m); got != want || code != impl.OK {
		t.Errorf("%s: ValuesOnce is %v %d, want %v, of %v", what, got, code, want, calls)
	}
	for _, word := range []string{"QueueTrue", "SwapsTrue", "StackTrue"} {
		is, code := pairCalls()[word](m)
		if (code == impl.ErrPair) == want || !want && is || want && code != impl.OK {
			t.Errorf("%s: %s is %v %d of %v", what, word, is, code, calls)
		}
	}
	if is, code := impl.CountsTrue(m); !is || code != impl.OK {
		t.Errorf("%s: CountsTrue is %v %d of %v", what, is, code, calls)
	}
}

// everyEnd is a call that brings v in all the ways in which it may be over, or not.
func everyEnd(k, op, v int) map[string]impl.Call {
	c := byThread(k, callOver(op, v, v, 3, 9))
	return map[string]impl.Call{
		"good":      c,
		"later":     byThread(k, callOver(op, v, v, 12, 15)),
		"bent":      withResult(c, 77),
		"failed":    failedCall(c, impl.ErrTimeout),
		"no room":   failedCall(c, impl.ErrFull),
		"under way": byThread(k, callOver(op, v, v, 3, 0)),
	}
}

var bringing = []int{impl.OpPut, impl.OpSwap, impl.OpPush}

// No two of one kind have one Arg, however they ended; two of other kinds may.
func TestValuesOnce(t *testing.T) {
	wantOnce(t, "no calls", true)
	others := []impl.Call{byThread(2, takeOver(0, 1, 0)), popOver(5, 1, 2), takeOver(5, 2, 3), countOver(0, 2, 4), byThread(3, popOver(0, 4, 0))}
	for _, v := range []int{0, 1, 5, 999} {
		for i, op := range bringing {
			other := bringing[(i+1)%3]
			for end1, a := range everyEnd(0, op, v) {
				wantOnce(t, "one alone, "+end1, true, a)
				wantOnce(t, "one beside others that bring nothing, "+end1, true, append(others, a)...)
				for end2, b := range everyEnd(1, op, v) {
					what := fmt.Sprint(callKinds[op-1].word, " ", v, ", ", end1, " and ", end2)
					wantOnce(t, what, false, a, b)
					wantOnce(t, what+", others between", false, slices.Concat([]impl.Call{a}, others, []impl.Call{b})...)
					b.Arg = (v + 1) % 1000
					wantOnce(t, what+", two values", true, a, b)
				}
				for end2, b := range everyEnd(1, other, v) {
					wantOnce(t, fmt.Sprint("two kinds of one value, ", end1, " and ", end2), true, a, b)
				}
			}
		}
	}
	wantOnce(t, "the same call twice", false, putOver(5, 0, 9), putOver(5, 0, 9))
	wantOnce(t, "a put, a swap and a push of 0", true, putOver(0, 0, 9), swapOver(0, 0, 0, 9), pushOver(0, 0, 9))
	wantOnce(t, "the first and the last of three", false, pushOver(5, 0, 1), pushOver(6, 1, 2), pushOver(5, 2, 3))
	wantOnce(t, "two that were told one result", true, withResult(putOver(5, 0, 9), 5), withResult(putOver(6, 0, 9), 5))
	wantOnce(t, "many takes, pops and counts", true, takeOver(0, 0, 9), takeOver(0, 0, 9), popOver(0, 0, 9), popOver(0, 0, 9), countOver(0, 0, 9), countOver(1, 0, 9))
}

// As many calls as a machine may have, each of a value of its own as far as there are values.
func TestValuesOnceOfManyCalls(t *testing.T) {
	var calls []impl.Call
	for v := range 1000 {
		calls = append(calls, putOver(v, v, v+2), swapOver(v, (v+1)%1000, v, v+2), pushOver(v, v, v+2))
	}
	m := atTimes(historyOf(calls...), 4, 2000)
	m.Calls = append(m.Calls, slices.Repeat([]impl.Call{takeOver(1000, 1, 2)}, impl.MaxList-3000)...)
	wantVerdict(t, "once", m, verdict{yes, no, no, no, yes})
	m.Calls[impl.MaxList-1] = pushOver(999, 1, 2)
	wantVerdict(t, "twice", m, verdict{no, noPair, noPair, noPair, yes})
}

func wantGivers(t *testing.T, what string, list []impl.Call, c impl.Call, want ...impl.Call) {
	t.Helper()
	got, code := impl.GiversOf(list, c)
	wantCalls(t, fmt.Sprintf("%s: GiversOf %v in %v", what, c, list), got, code, want, impl.OK)
}

func wantNoGivers(t *testing.T, what string, list []impl.Call, c impl.Call, code int) {
	t.Helper()
	got, gotCode := impl.GiversOf(list, c)
	wantCalls(t, fmt.Sprintf("%s: GiversOf %v", what, c), got, gotCode, nil, code)
}

// What gives a take from 4 to 8 the value 5, and what does not.
func TestGiversOfATake(t *testing.T) {
	c := takeOver(5, 4, 8)
	for what, x := range map[string]struct {
		call  impl.Call
		gives bool
	}{
		"a put within it":                      {putOver(5, 5, 6), true},
		"a put around it":                      {putOver(5, 0, 20), true},
		"a put that is over a step behind":     {putOver(5, 0, 5), true},
		"a put that is over at its beginning":  {putOver(5, 0, 4), false},
		"a put that was over long ago":         {putOver(5, 0, 1), false},
		"a put that begins a step ahead":       {putOver(5, 7, 20), true},
		"a put that begins at its end":         {putOver(5, 8, 20), false},
		"a put that begins later":              {putOver(5, 15, 20), false},
		"a put under way":                      {putOver(5, 5, 0), true},
		"a put under way from 0":               {putOver(5, 0, 0), true},
		"a put under way, a step ahead":        {putOver(5, 7, 0), true},
		"a put under way from its end":         {putOver(5, 8, 0), false},
		"a put of the same thread":             {byThread(0, putOver(5, 5, 6)), true},
		"a put of another thread":              {byThread(3, putOver(5, 5, 6)), true},
		"a put that was told another value":    {withResult(putOver(5, 5, 6), 7), true},
		"a put that failed":                    {failedCall(putOver(5, 5, 6), impl.ErrTimeout), false},
		"a put that was cancelled":             {failedCall(putOver(5, 5, 6), impl.ErrCancelled), false},
		"a put that had no room":               {failedCall(putOver(5, 5, 6), impl.ErrFull), false},
		"a put that failed with the value":     {failedWith(putOver(5, 5, 6), impl.ErrBad, 5), false},
		"a put of another value":               {putOver(6, 5, 6), false},
		"a put of another value, told this":    {withResult(putOver(6, 5, 6), 5), false},
		"a put of 0":                           {putOver(0, 5, 6), false},
		"a swap of the value":                  {swapOver(5, 0, 5, 6), false},
		"a swap of the value under way":        {swapOver(5, 0, 5, 0), false},
		"a swap of the value for itself":       {swapOver(5, 5, 5, 6), false},
		"a push of the value":                  {pushOver(5, 5, 6), false},
		"a push of the value under way":        {pushOver(5, 5, 0), false},
		"another take of the value":            {takeOver(5, 5, 6), false},
		"a take under way":                     {takeOver(0, 5, 0), false},
		"a pop of the value":                   {popOver(5, 5, 6), false},
		"a count that was told it":             {countOver(5, 5, 6), false},
		"the take itself":                      {c, false},
		"a put of the value that is all steps": {putOver(5, 0, impl.MaxTime), true},
	} {
		list := []impl.Call{x.call}
		if !x.gives {
			wantGivers(t, what, list, c)
			wantGivers(t, what+", beside one that gives", []impl.Call{x.call, putOver(5, 3, 7), x.call}, c, putOver(5, 3, 7))
			continue
		}
		wantGivers(t, what, list, c, x.call)
		wantGivers(t, what+", beside the take", []impl.Call{c, x.call, c}, c, x.call)
		wantGivers(t, what+", beside another", []impl.Call{putOver(5, 3, 7), x.call}, c, putOver(5, 3, 7), x.call)
	}
}

// What gives a swap of 8 from 4 to 8 the value 5, and what does not.
func TestGiversOfASwap(t *testing.T) {
	c := swapOver(8, 5, 4, 8)
	for what, x := range map[string]struct {
		call  impl.Call
		gives bool
	}{
		"a swap within it":                     {swapOver(5, 8, 5, 6), true},
		"a swap around it":                     {swapOver(5, 8, 0, 20), true},
		"a swap that is over a step behind":    {swapOver(5, 8, 0, 5), true},
		"a swap that is over at its beginning": {swapOver(5, 8, 0, 4), false},
		"a swap that begins a step ahead":      {swapOver(5, 8, 7, 20), true},
		"a swap that begins at its end":        {swapOver(5, 8, 8, 20), false},
		"a swap of the same thread":            {byThread(0, swapOver(5, 8, 5, 6)), true},
		"a swap of another thread":             {byThread(3, swapOver(5, 8, 5, 6)), true},
		"a swap under way":                     {swapOver(5, 0, 5, 0), true},
		"a swap under way from 0":              {swapOver(5, 0, 0, 0), true},
		"a swap under way from its end":        {swapOver(5, 0, 8, 0), false},
		"a swap with another one":              {swapOver(5, 9, 5, 6), false},
		"a swap with itself":                   {swapOver(5, 5, 5, 6), false},
		"a swap that was told 0":               {swapOver(5, 0, 5, 6), false},
		"a swap that failed":                   {failedCall(swapOver(5, 8, 5, 6), impl.ErrTimeout), false},
		"a swap that was cancelled":            {failedCall(swapOver(5, 8, 5, 6), impl.ErrCancelled), false},
		"a swap that failed with the value":    {failedWith(swapOver(5, 8, 5, 6), impl.ErrFull, 8), false},
		"a swap of another value":              {swapOver(6, 8, 5, 6), false},
		"a swap of another value under way":    {swapOver(6, 0, 5, 0), false},
		"another one that was told the same":   {swapOver(8, 5, 5, 6), false},
		"a put of the value":                   {putOver(5, 5, 6), false},
		"a put of the value under way":         {putOver(5, 5, 0), false},
		"a put that was told its value":        {withResult(putOver(5, 5, 6), 8), false},
		"a push that was told its value":       {withResult(pushOver(5, 5, 6), 8), false},
		"a take":                               {takeOver(8, 5, 6), false},
		"a pop":                                {popOver(8, 5, 6), false},
		"the swap itself":                      {c, false},
	} {
		if !x.gives {
			wantGivers(t, what, []impl.Call{x.call}, c)
			wantGivers(t, what+", beside one that gives", []impl.Call{x.call, swapOver(5, 8, 3, 7), x.call}, c, swapOver(5, 8, 3, 7))
			continue
		}
		wantGivers(t, what, []impl.Call{x.call}, c, x.call)
		wantGivers(t, what+", beside the swap", []impl.Call{c, x.call, c}, c, x.call)
		wantGivers(t, what+", beside another", []impl.Call{swapOver(5, 8, 3, 7), x.call}, c, swapOver(5, 8, 3, 7), x.call)
	}
}

// A swap that was told its own value: nobody but another call gives it.
func TestASwapGivesItselfNothing(t *testing.T) {
	c := swapOver(5, 5, 4, 8)
	later, other := swapOver(5, 5, 5, 9), byThread(1, c)
	open := swapOver(5, 0, 4, 0)
	wantGivers(t, "no calls", nil, c)
	wantGivers(t, "itself alone", []impl.Call{c}, c)
	wantGivers(t, "itself, told twice", []impl.Call{c, c}, c)
	wantGivers(t, "itself and others like it", []impl.Call{c, later, open, other, c}, c, later, open, other)
	wantGivers(t, "another one of its value, with a third one", []impl.Call{c, swapOver(5, 6, 4, 8)}, c)
}

// The givers are told in the order of the list, each as often as it is there.
func TestGiversAreInTheOrderOfTheList(t *testing.T) {
	a, b, d := putOver(5, 6, 7), putOver(5, 0, 20), putOver(5, 3, 0)
	c := takeOver(5, 4, 8)
	wantGivers(t, "no list", nil, c)
	wantGivers(t, "an empty list", []impl.Call{}, c)
	wantGivers(t, "three", []impl.Call{a, b, d}, c, a, b, d)
	wantGivers(t, "three, turned round", []impl.Call{d, b, a}, c, d, b, a)
	wantGivers(t, "one twice", []impl.Call{b, a, b}, c, b, a, b)
	wantGivers(t, "values at both ends", []impl.Call{putOver(0, 5, 6), putOver(999, 5, 6)}, takeOver(0, 4, 8), putOver(0, 5, 6))
	wantGivers(t, "values at both ends", []impl.Call{putOver(0, 5, 6), putOver(999, 5, 6)}, takeOver(999, 4, 8), putOver(999, 5, 6))
	wantGivers(t, "what nobody can bring", []impl.Call{a, b, d, putOver(999, 5, 6)}, takeOver(impl.MaxWord, 4, 8))
	full := slices.Repeat([]impl.Call{a, takeOver(5, 1, 9)}, impl.MaxList/2)
	wantGivers(t, "as many as there may be", full, c, slices.Repeat([]impl.Call{a}, impl.MaxList/2)...)
}

// noGiverAsked are right, and no take or swap that ended well.
func noGiverAsked() map[string]impl.Call {
	all := map[string]impl.Call{
		"a good put":               putOver(5, 4, 8),
		"a good push":              pushOver(5, 4, 8),
		"a good pop":               popOver(5, 4, 8),
		"a good count":             countOver(5, 4, 8),
		"a take with a result":     failedWith(takeOver(5, 4, 8), impl.ErrTimeout, 5),
		"a swap with a result":     failedWith(swapOver(8, 5, 4, 8), impl.ErrTimeout, 5),
		"a take under way from 0":  takeOver(0, 0, 0),
		"a swap of 0 from 0":       swapOver(0, 0, 0, 0),
		"a take at the last step":  takeOver(0, impl.MaxTime, 0),
		"a swap that had no room":  failedCall(swapOver(8, 5, 4, 8), impl.ErrFull),
		"a take that was too late": failedCall(takeOver(5, 4, 8), impl.ErrCancelled),
	}
	for _, k := range callKinds {
		c := callOver(k.op, min(5, k.mostArg()), 5, 4, 8)
		all[k.word+" under way"] = callOver(k.op, c.Arg, 0, 4, 0)
		for code := 1; code < 20; code++ {
			all[fmt.Sprint(k.word, ", ", impl.CodeWord(code))] = failedCall(c, code)
		}
	}
	return all
}

// Too long is ahead of not right, and not right ahead of what no giver is asked of.
func TestGiversOfFaults(t *testing.T) {
	right := []impl.Call{putOver(5, 5, 6), swapOver(5, 8, 5, 6), putOver(0, 3, 9)}
	asked := []impl.Call{takeOver(5, 4, 8), swapOver(8, 5, 4, 8)}
	long := slices.Repeat(right[:1], impl.MaxList+1)
	for name, c := range noGiverAsked() {
		wantNoGivers(t, name+", no list", nil, c, impl.ErrPair)
		wantNoGivers(t, name, right, c, impl.ErrPair)
		wantNoGivers(t, name+", in the list", append(right, c), c, impl.ErrPair)
		wantNoGivers(t, name+", a list that is not right", append(right, impl.Call{}), c, impl.ErrBad)
		wantNoGivers(t, name+", a long list", long, c, impl.ErrLong)
	}
	for name, bad := range badCalls() {
		wantNoGivers(t, name+", no list", nil, bad, impl.ErrBad)
		wantNoGivers(t, name+", a right list", right, bad, impl.ErrBad)
		wantNoGivers(t, name+", in the list, too", append(right, bad), bad, impl.ErrBad)
		wantNoGivers(t, name+", a long list", long, bad, impl.ErrLong)
		for _, c := range asked {
			wantNoGivers(t, name+", in the list, alone", []impl.Call{bad}, c, impl.ErrBad)
			wantNoGivers(t, name+", in the list, first", append([]impl.Call{bad}, right...), c, impl.ErrBad)
			wantNoGivers(t, name+", in the list, last", append(right, bad), c, impl.ErrBad)
			wantNoGivers(t, name+", in a long list", append(long[:impl.MaxList:impl.MaxList], bad), c, impl.ErrLong)
		}
	}
	for _, c := range asked {
		wantNoGivers(t, "a long list", long, c, impl.ErrLong)
		wantNoGivers(t, "a list that is much too long", slices.Repeat(long, 3), c, impl.ErrLong)
		wantNoGivers(t, "a long list of calls that are not right", make([]impl.Call, impl.MaxList+1), c, impl.ErrLong)
		wantNoGivers(t, "a full list of calls that are not right", make([]impl.Call, impl.MaxList), c, impl.ErrBad)
	}
}

func TestQueueTrue(t *testing.T) {
	five, six, seven := putOver(5, 0, 4), putOver(6, 1, 9), putOver(7, 2, 10)
	open := func(k int) impl.Call { return byThread(k, takeOver(0, 3, 0)) }
	for what, c := range map[string]struct {
		calls []impl.Call
		want  bool
	}{
		"no calls":                              {nil, true},
		"one that met":                          {[]impl.Call{five, takeOver(5, 1, 3)}, true},
		"one that met, the take first":          {[]impl.Call{takeOver(5, 1, 3), five}, true},
		"one that met with 0":                   {[]impl.Call{putOver(0, 0, 4), takeOver(0, 1, 3)}, true},
		"three that met":                        {[]impl.Call{five, six, takeOver(6, 3, 5), seven, takeOver(5, 1, 3), takeOver(7, 9, 12)}, true},
		"a put under way was taken":             {[]impl.Call{putOver(5, 0, 0), takeOver(5, 1, 3)}, true},
		"a put that was told another value":     {[]impl.Call{withResult(five, 9), takeOver(5, 1, 3)}, true},
		"a take of what nobody put":             {[]impl.Call{takeOver(5, 1, 3)}, false},
		"a take of 0 that nobody put":           {[]impl.Call{takeOver(0, 1, 3)}, false},
		"a take of another value":               {[]impl.Call{five, takeOver(6, 1, 3)}, false},
		"a take of a put's result":              {[]impl.Call{withResult(five, 9), takeOver(9, 1, 3)}, false},
		"a put that ended as it began":          {[]impl.Call{five, takeOver(5, 4, 7)}, false},
		"a put that began as it ended":          {[]impl.Call{putOver(5, 7, 9), takeOver(5, 4, 7)}, false},
		"a put under way that began later":      {[]impl.Call{putOver(5, 7, 0), takeOver(5, 4, 7)}, false},
		"a put that failed":                     {[]impl.Call{failedCall(five, impl.ErrTimeout), takeOver(5, 1, 3)}, false},
		"a swap of the value":                   {[]impl.Call{byThread(1, swapOver(5, 0, 0, 0)), takeOver(5, 1, 3)}, false},
		"a push of the value":                   {[]impl.Call{byThread(1, pushOver(5, 0, 0)), takeOver(5, 1, 3)}, false},
		"two takes of one value":                {[]impl.Call{five, takeOver(5, 1, 3), takeOver(5, 2, 3)}, false},
		"two takes of one value, alike":         {[]impl.Call{five, takeOver(5, 1, 3), takeOver(5, 1, 3)}, false},
		"two takes of one value of two puts":    {[]impl.Call{five, six, takeOver(5, 1, 3), takeOver(5, 2, 3)}, false},
		"one of two takes failed":               {[]impl.Call{five, takeOver(5, 1, 3), failedCall(takeOver(5, 2, 3), impl.ErrTimeout)}, true},
		"one of two takes failed with it":       {[]impl.Call{five, takeOver(5, 1, 3), failedWith(takeOver(5, 2, 3), impl.ErrTimeout, 5)}, true},
		"a take that failed":                    {[]impl.Call{failedCall(takeOver(5, 1, 3), impl.ErrTimeout)}, true},
		"a take that failed with a value":       {[]impl.Call{failedWith(takeOver(5, 1, 3), impl.ErrTimeout, 5)}, true},
		"a take under way":                      {[]impl.Call{open(0)}, true},
		"puts and takes that failed":            {[]impl.Call{failedCall(five, impl.ErrTimeout), failedCall(six, impl.ErrFull), failedCall(takeOver(5, 1, 3), impl.ErrCancelled)}, true},
		"puts under way":                        {[]impl.Call{putOver(5, 0, 0), byThread(1, putOver(6, 0, 0)), byThread(2, putOver(7, 9, 0))}, true},
		"a good put alone":                      {[]impl.Call{five}, false},
		"a good put, and a take that failed":    {[]impl.Call{five, failedWith(takeOver(5, 1, 3), impl.ErrTimeout, 5)}, false},
		"a good put, and a pop of it":           {[]impl.Call{five, popOver(5, 1, 3)}, false},
		"a good put, and a swap for it":         {[]impl.Call{five, swapOver(6, 5, 1, 3)}, false},
		"a good put, and a count":               {[]impl.Call{five, countOver(5, 1, 3)}, false},
		"a good put, a pop and a swap open":     {[]impl.Call{five, byThread(1, popOver(0, 1, 0)), byThread(2, swapOver(5, 0, 1, 0))}, false},
		"a good put, and a put under way":       {[]impl.Call{five, byThread(1, putOver(6, 1, 0))}, false},
		"a good put, a take under way":          {[]impl.Call{five, open(1)}, true},
		"a good put of 0, a take under way":     {[]impl.Call{putOver(0, 1, 4), open(1)}, true},
		"a good put, a take under way later":    {[]impl.Call{five, byThread(1, takeOver(0, 15, 0))}, true},
		"two good puts, of them 0, one take":    {[]impl.Call{putOver(0, 1, 4), five, open(1)}, false},
		"two good puts, a take under way":       {[]impl.Call{five, six, open(1)}, false},
		"two good puts, two takes under way":    {[]impl.Call{five, six, open(1), open(2)}, true},
		"three good puts, two takes under way":  {[]impl.Call{five, six, seven, open(1), open(2)}, false},
		"three good puts, one of them was met":  {[]impl.Call{five, six, seven, takeOver(6, 3, 5), open(1), open(2)}, true},
		"three good puts, one take, one open":   {[]impl.Call{five, six, seven, takeOver(6, 3, 5), open(1)}, false},
		"more takes under way than good puts":   {[]impl.Call{five, open(1), open(2), open(3)}, true},
		"a good put without, others that met":   {[]impl.Call{five, takeOver(5, 1, 3), six}, false},
		"a put that failed without, one met":    {[]impl.Call{five, takeOver(5, 1, 3), failedCall(six, impl.ErrTimeout)}, true},
		"one met, one of what nobody put":       {[]impl.Call{five, takeOver(5, 1, 3), takeOver(8, 1, 3)}, false},
		"one of what nobody put, then one met":  {[]impl.Call{takeOver(8, 1, 3), five, takeOver(5, 1, 3)}, false},
		"a take too few for what is under way":  {[]impl.Call{five, six, takeOver(6, 3, 5), takeOver(9, 3, 5), open(1), open(2)}, false},
		"a thread that takes what it put":       {[]impl.Call{byThread(2, five), byThread(2, takeOver(5, 1, 3))}, true},
		"a good put bent to a value, was taken": {[]impl.Call{withResult(five, 6), takeOver(6, 1, 3), open(1)}, false},
	} {
		wantSaid(t, what, historyOf(c.calls...), impl.QueueTrue, c.want)
	}
}

func TestSwapsTrue(t *testing.T) {
	a, b := swapOver(5, 8, 0, 6), swapOver(8, 5, 2, 9)
	for what, c := range map[string]struct {
		calls []impl.Call
		want  bool
	}{
		"no calls":                              {nil, true},
		"a pair":                                {[]impl.Call{a, b}, true},
		"a pair, the later one first":           {[]impl.Call{b, a}, true},
		"a pair of which one is 0":              {[]impl.Call{swapOver(0, 8, 0, 6), swapOver(8, 0, 2, 9)}, true},
		"two pairs":                             {[]impl.Call{a, swapOver(1, 2, 0, 4), b, swapOver(2, 1, 1, 9)}, true},
		"two pairs, one behind the other":       {[]impl.Call{a, b, swapOver(1, 2, 9, 12), swapOver(2, 1, 11, 15)}, true},
		"a pair of one thread":                  {[]impl.Call{byThread(2, a), byThread(2, b)}, true},
		"one of them is under way":              {[]impl.Call{a, byThread(1, swapOver(8, 0, 2, 0))}, true},
		"the first one is under way":            {[]impl.Call{byThread(1, swapOver(5, 0, 0, 0)), b}, true},
		"both are under way":                    {[]impl.Call{swapOver(5, 0, 0, 0), byThread(1, swapOver(8, 0, 2, 0))}, true},
		"one alone under way":                   {[]impl.Call{swapOver(5, 0, 0, 0)}, true},
		"one alone that failed":                 {[]impl.Call{failedCall(a, impl.ErrTimeout)}, true},
		"one that failed with a value":          {[]impl.Call{failedWith(a, impl.ErrTimeout, 8)}, true},
		"two that failed":                       {[]impl.Call{failedCall(a, impl.ErrTimeout), failedCall(b, impl.ErrCancelled)}, true},
		"one alone":                             {[]impl.Call{a}, false},
		"one alone, told 0":                     {[]impl.Call{swapOver(5, 0, 0, 6)}, false},
		"one of them failed":                    {[]impl.Call{a, failedCall(b, impl.ErrTimeout)}, false},
		"one of them failed with the value":     {[]impl.Call{a, failedWith(b, impl.ErrTimeout, 5)}, false},
		"one with itself":                       {[]impl.Call{swapOver(5, 5, 0, 6)}, false},
		"both with themselves":                  {[]impl.Call{swapOver(5, 5, 0, 6), swapOver(8, 8, 0, 6)}, false},
		"one with a put":                        {[]impl.Call{a, byThread(1, putOver(8, 0, 0))}, false},
		"one with a push":                       {[]impl.Call{a, withResult(pushOver(8, 2, 9), 5)}, false},
		"one with a take":                       {[]impl.Call{a, takeOver(5, 2, 9)}, false},
		"one that ends as the other one begins": {[]impl.Call{swapOver(5, 8, 0, 2), b}, false},
		"one that begins as the other one ends": {[]impl.Call{swapOver(5, 8, 9, 12), b}, false},
		"one under way from the other's end":    {[]impl.Call{byThread(1, swapOver(5, 0, 9, 0)), b}, false},
		"they overlap at one step":              {[]impl.Call{swapOver(5, 8, 8, 12), b}, true},
		"one was told another value":            {[]impl.Call{a, withResult(b, 7)}, false},
		"one was told its own":                  {[]impl.Call{a, withResult(b, 8)}, false},
		"three in a ring":                       {[]impl.Call{swapOver(1, 2, 0, 9), swapOver(2, 3, 0, 9), swapOver(3, 1, 0, 9)}, false},
		"a pair, and a third one told the same": {[]impl.Call{a, b, swapOver(1, 8, 0, 6)}, false},
		"two told one value, it is under way":   {[]impl.Call{a, swapOver(1, 8, 0, 6), byThread(1, swapOver(8, 0, 2, 0))}, false},
		"a pair, and one of what nobody has":    {[]impl.Call{a, b, swapOver(1, 2, 0, 6)}, false},
		"one of what nobody has, and a pair":    {[]impl.Call{swapOver(1, 2, 0, 6), a, b}, false},
		"a pair, others under way":              {[]impl.Call{a, b, byThread(1, swapOver(1, 0, 3, 0)), byThread(2, swapOver(2, 0, 3, 0))}, true},
		"a pair, others that failed":            {[]impl.Call{failedCall(swapOver(1, 0, 3, 9), impl.ErrFull), a, b, failedCall(swapOver(2, 0, 3, 9), impl.ErrTimeout)}, true},
		"two with one under way":                {[]impl.Call{swapOver(1, 9, 0, 6), swapOver(2, 9, 0, 6), byThread(1, swapOver(9, 0, 0, 0))}, false},
		"both of a pair have the other's":       {[]impl.Call{swapOver(5, 5, 0, 6), swapOver(8, 5, 2, 9)}, false},
	} {
		wantSaid(t, what, historyOf(c.calls...), impl.SwapsTrue, c.want)
	}
}

func TestStackTrue(t *testing.T) {
	five, six, seven := pushOver(5, 0, 4), pushOver(6, 1, 9), pushOver(7, 2, 10)
	open := func(k int) impl.Call { return byThread(k, popOver(0, 3, 0)) }
	type row struct {
		calls []impl.Call
		lies  []int
		want  bool
	}
	for what, c := range map[string]row{
		"no calls":                              {nil, nil, true},
		"no calls, something lies there":        {nil, []int{5}, false},
		"pushed":                                {[]impl.Call{five}, []int{5}, true},
		"pushed 0":                              {[]impl.Call{pushOver(0, 0, 4)}, []int{0}, true},
		"pushed, it is gone":                    {[]impl.Call{five}, nil, false},
		"pushed, two lie there":                 {[]impl.Call{five}, []int{5, 6}, false},
		"two pushed":                            {[]impl.Call{five, six}, []int{6, 5}, true},
		"two pushed, one lies there":            {[]impl.Call{five, six}, []int{6}, false},
		"a push under way, nothing lies there":  {[]impl.Call{pushOver(5, 0, 0)}, nil, true},
		"a push under way, it lies there":       {[]impl.Call{pushOver(5, 0, 0)}, []int{5}, false},
		"a push that failed":                    {[]impl.Call{failedCall(five, impl.ErrFull)}, nil, true},
		"a push that failed, it lies there":     {[]impl.Call{failedCall(five, impl.ErrFull)}, []int{5}, false},
		"popped":                                {[]impl.Call{five, popOver(5, 4, 8)}, nil, true},
		"popped 0":                              {[]impl.Call{pushOver(0, 0, 4), popOver(0, 4, 8)}, nil, true},
		"popped, told the other way round":      {[]impl.Call{popOver(5, 4, 8), five}, nil, true},
		"popped long behind":                    {[]impl.Call{pushOver(5, 0, 1), popOver(5, 15, 20)}, nil, true},
		"popped where another one was told":     {[]impl.Call{withResult(five, 9), popOver(5, 4, 8)}, nil, true},
		"popped what another one was told":      {[]impl.Call{withResult(five, 9), popOver(9, 4, 8)}, nil, false},
		"popped, and it lies there":             {[]impl.Call{five, popOver(5, 4, 8)}, []int{5}, false},
		"popped one of two, it lies there":      {[]impl.Call{five, six, popOver(6, 9, 12)}, []int{6}, false},
		"popped one of two, both lie there":     {[]impl.Call{five, six, popOver(6, 9, 12)}, []int{6, 5}, false},
		"popped one of two, at the bottom":      {[]impl.Call{five, six, seven, popOver(5, 9, 12)}, []int{7, 5}, false},
		"popped one of two":                     {[]impl.Call{five, six, popOver(6, 9, 12)}, []int{5}, true},
		"popped the lower one of two":           {[]impl.Call{five, six, popOver(5, 9, 12)}, []int{6}, true},
		"popped what nobody pushed":             {[]impl.Call{popOver(5, 4, 8)}, nil, false},
		"popped 0 that nobody pushed":           {[]impl.Call{popOver(0, 4, 8)}, nil, false},
		"popped another value":                  {[]impl.Call{five, popOver(6, 4, 8)}, nil, false},
		"popped what is above all values":       {[]impl.Call{five, popOver(impl.MaxWord, 4, 8)}, nil, false},
		"popped as it began to be pushed":       {[]impl.Call{pushOver(5, 8, 12), popOver(5, 4, 8)}, nil, false},
		"popped ahead of it":                    {[]impl.Call{pushOver(5, 12, 15), popOver(5, 4, 8)}, nil, false},
		"popped a step behind":                  {[]impl.Call{pushOver(5, 7, 12), popOver(5, 4, 8)}, nil, true},
		"popped of a push that failed":          {[]impl.Call{failedCall(five, impl.ErrFull), popOver(5, 4, 8), six}, nil, false},
		"popped of one that failed with it":     {[]impl.Call{failedWith(five, impl.ErrFull, 5), popOver(5, 4, 8), six}, nil, false},
		"popped of a push under way, no more":   {[]impl.Call{pushOver(5, 0, 0), popOver(5, 4, 8)}, nil, false},
		"popped of a push under way, one good":  {[]impl.Call{byThread(1, pushOver(5, 0, 0)), popOver(5, 4, 8), six}, nil, true},
		"popped of one under way, a step ahead": {[]impl.Call{byThread(1, pushOver(5, 7, 0)), popOver(5, 4, 8), six}, nil, true},
		"popped of one under way later":         {[]impl.Call{byThread(1, pushOver(5, 8, 0)), popOver(5, 4, 8), six}, nil, false},
		"popped what was put":                   {[]impl.Call{putOver(5, 0, 4), popOver(5, 4, 8), six}, nil, false},
		"popped what was swapped":               {[]impl.Call{swapOver(5, 5, 0, 4), popOver(5, 4, 8), six}, nil, false},
		"popped twice":                          {[]impl.Call{five, six, popOver(5, 4, 8), popOver(5, 5, 9)}, nil, false},
		"popped twice, alike":                   {[]impl.Call{five, six, popOver(5, 4, 8), popOver(5, 4, 8)}, nil, false},
		"popped twice, one failed":              {[]impl.Call{five, popOver(5, 4, 8), failedCall(popOver(5, 5, 9), impl.ErrEmpty)}, nil, true},
		"popped twice, one failed with it":      {[]impl.Call{five, popOver(5, 4, 8), failedWith(popOver(5, 5, 9), impl.ErrEmpty, 5)}, nil, true},
		"a pop that failed":                     {[]impl.Call{failedCall(popOver(5, 4, 8), impl.ErrEmpty)}, nil, true},
		"a pop that failed, it lies there":      {[]impl.Call{five, failedWith(popOver(5, 4, 8), impl.ErrEmpty, 5)}, []int{5}, true},
		"a pop that failed, it is gone":         {[]impl.Call{five, failedWith(popOver(5, 4, 8), impl.ErrEmpty, 5)}, nil, false},
		"both popped":                           {[]impl.Call{five, six, popOver(5, 4, 8), popOver(6, 9, 12)}, nil, true},
		"one pop under way, it lies there":      {[]impl.Call{five, open(1)}, []int{5}, true},
		"one pop under way, it is gone":         {[]impl.Call{five, open(1)}, nil, true},
		"one pop under way, 0 lies there":       {[]impl.Call{pushOver(0, 0, 4), open(1)}, []int{0}, true},
		"one pop under way, two are gone":       {[]impl.Call{five, six, open(1)}, nil, false},
		"one pop under way, one of two is gone": {[]impl.Call{five, six, open(1)}, []int{5}, true},
		"two pops under way, two are gone":      {[]impl.Call{five, six, open(1), open(2)}, nil, true},
		"two pops under way, one is gone":       {[]impl.Call{five, six, open(1), open(2)}, []int{5}, true},
		"two pops under way, none is gone":      {[]impl.Call{five, six, open(1), open(2)}, []int{6, 5}, true},
		"two pops under way, one too many":      {[]impl.Call{five, six, open(1), open(2)}, []int{7, 6, 5}, false},
		"two pops under way, three are gone":    {[]impl.Call{five, six, seven, open(1), open(2)}, nil, false},
		"popped, one under way, two are gone":   {[]impl.Call{five, six, seven, popOver(5, 4, 8), open(2)}, nil, false},
		"popped, two under way, two are gone":   {[]impl.Call{five, six, seven, popOver(5, 4, 8), open(2), open(1)}, nil, true},
		"one pop under way, nothing pushed":     {[]impl.Call{open(1)}, nil, true},
		"one pop under way, one lies there":     {[]impl.Call{open(1)}, []int{5}, false},
		"one take under way, it is gone":        {[]impl.Call{five, byThread(1, takeOver(0, 3, 0))}, nil, false},
		"one push under way, it is gone":        {[]impl.Call{five, byThread(1, pushOver(6, 3, 0))}, nil, false},
		"what lies there was not pushed":        {[]impl.Call{five}, []int{6}, true},
		"what lies there is below 0":            {[]impl.Call{pushOver(0, 0, 4), popOver(0, 4, 8), six}, []int{-6}, true},
		"one lies there twice":                  {[]impl.Call{five, six}, []int{5, 5}, true},
	} {
		m := withCells(historyOf(c.calls...), lying(c.lies...))
		wantItems(t, what, m.Arena.Cells, c.lies...)
		wantSaid(t, what, m, impl.StackTrue, c.want)
	}
}

// A chain of nodes without an end counts as StackItems tells it.
func TestStackTrueOfAChainWithoutAnEnd(t *testing.T) {
	ring := append(withCell(emptyTree(), impl.StackTop, 15), 5, 15)
	var calls []impl.Call
	for v := range impl.MaxCells + 2 {
		calls = append(calls, pushOver(v+100, 0, 4))
	}
	for n := range 3 {
		m := withCells(historyOf(calls[:impl.MaxCells-1+n]...), ring)
		wantVerdict(t, fmt.Sprint("as many and ", n-1), m, verdict{yes, yes, yes, said{n == 1, impl.OK}, yes})
	}
}

func TestCountsTrue(t *testing.T) {
	of := func(numbers ...int) (list []impl.Call) {
		for i, n := range numbers {
			list = append(list, countOver(n, i, i+3))
		}
		return list
	}
	open := func(k int) impl.Call { return byThread(k, countOver(0, 3, 0)) }
	failed := failedCall(countOver(0, 3, 9), impl.ErrFull)
	for what, c := range map[string]struct {
		calls []impl.Call
		want  bool
	}{
		"no calls":                            {nil, true},
		"one":                                 {of(0), true},
		"one above":                           {of(1), false},
		"one far above":                       {of(impl.MaxWord), false},
		"two":                                 {of(0, 1), true},
		"two, turned round":                   {of(1, 0), true},
		"two of one number":                   {of(0, 0), false},
		"two of one number, not 0":            {of(1, 1), false},
		"two, one left out":                   {of(0, 2), false},
		"two, 0 left out":                     {of(1, 2), false},
		"five":                                {of(3, 0, 4, 1, 2), true},
		"five, one left out":                  {of(3, 0, 5, 1, 2), false},
		"five, one twice":                     {of(3, 0, 4, 1, 3), false},
		"five, the first and the last alike":  {of(4, 0, 3, 1, 4), false},
		"one under way":                       {[]impl.Call{open(0)}, true},
		"one under way, 0":                    {append(of(0), open(0)), true},
		"one under way, 1":                    {append(of(1), open(0)), true},
		"one under way, 2":                    {append(of(2), open(0)), false},
		"one under way, 0 and 2":              {append(of(0, 2), open(0)), true},
		"one under way, 1 and 2":              {append(of(1, 2), open(0)), true},
		"one under way, 1 and 3":              {append(of(1, 3), open(0)), false},
		"one under way, twice 1":              {append(of(1, 1), open(0)), false},
		"one under way first, 2 and 0":        {append([]impl.Call{open(0)}, of(2, 0)...), true},
		"three under way, 3":                  {append(of(3), open(0), open(1), open(2)), true},
		"three under way, 4":                  {append(of(4), open(0), open(1), open(2)), false},
		"all under way":                       {[]impl.Call{open(0), open(1), open(2), open(3)}, true},
		"one that failed":                     {[]impl.Call{failed}, true},
		"one that failed, told 9":             {[]impl.Call{failedWith(failed, impl.ErrFull, 9)}, true},
		"one that failed, 0":                  {append(of(0), failed), true},
		"one that failed, 1":                  {append(of(1), failed), true},
		"one that failed, 2":                  {append(of(2), failed), false},
		"one that failed, told the same":      {append(of(1), failedWith(failed, impl.ErrFull, 1)), true},
		"others beside it do not count":       {append(of(1), popOver(0, 3, 9), failedCall(takeOver(0, 3, 9), impl.ErrTimeout)), false},
		"others beside it that are under way": {append(of(1), byThread(1, popOver(0, 3, 0)), byThread(2, takeOver(0, 3, 0))), false},
		"others' results do not count":        {append(of(0), withResult(putOver(5, 3, 9), 0), takeOver(5, 3, 9)), true},
	} {
		wantSaid(t, what, historyOf(c.calls...), impl.CountsTrue, c.want)
	}
	below := historyOf(of(0, 1)...)
	below.Calls[1].Result = -1
	wantNothingTold(t, "a number below 0", below)
}

// As many counts as a machine may have.
func TestCountsTrueOfManyCounts(t *testing.T) {
	m := historyOf()
	for i := range impl.MaxList {
		m.Calls = append(m.Calls, countOver((i*5+3)%impl.MaxList, 0, 9))
	}
	for _, at := range []int{0, 1, 2000, impl.MaxList - 1} {
		x := cloned(m)
		wantVerdict(t, "all of them", x, allTrue)
		x.Calls[at].Result = impl.MaxList
		wantVerdict(t, "one above", x, verdict{yes, yes, yes, yes, no})
		x.Calls[at].Result = m.Calls[(at+1)%impl.MaxList].Result
		wantVerdict(t, "one twice", x, verdict{yes, yes, yes, yes, no})
		x.Calls[at].Code = impl.ErrFull
		wantVerdict(t, "one that failed", x, allTrue)
	}
}

// wantNothingTold: of a machine that is not right.
func wantNothingTold(t *testing.T, what string, m impl.Machine) {
	t.Helper()
	wantMachineOK(t, what, m, false)
	for word, call := range pairCalls() {
		if is, code := call(m); is || code != impl.ErrBad {
			t.Errorf("%s: %s is %v %d", what, word, is, code)
		}
	}
}

// What is not right comes ahead of values that are there twice, and these ahead of what is not true.
func TestPairFaults(t *testing.T) {
	for name, m := range badMachines() {
		wantNothingTold(t, name, m)
	}
	twice := []impl.Call{putOver(5, 0, 4), takeOver(9, 1, 3), putOver(5, 0, 4), swapOver(5, 9, 0, 4), popOver(9, 0, 4), countOver(9, 0, 4)}
	none := verdict{no, noPair, noPair, noPair, no}
	wantVerdict(t, "twice, and nothing of it true", historyOf(twice...), none)
	for name, bad := range badCalls() {
		m := historyOf(twice...)
		m.Calls = append(m.Calls, bad)
		wantNothingTold(t, name, m)
		m.Calls = []impl.Call{bad}
		wantNothingTold(t, name+", alone", m)
	}
	m := historyOf(twice...)
	m.Calls = append(m.Calls, spanned(3, 21))
	wantNothingTold(t, "a call later than the machine's steps", m)
	m = historyOf(append(twice, byThread(1, takeOver(0, 3, 0)))...)
	m.Threads[1] = impl.Thread{Id: 1}
	wantNothingTold(t, "a call under way of nobody", m)
	m = historyOf(slices.Repeat([]impl.Call{popOver(9, 0, 4)}, impl.MaxList)...)
	wantVerdict(t, "as many calls as there may be", m, verdict{yes, yes, yes, no, yes})
	m.Calls = append(m.Calls, popOver(9, 0, 4))
	wantNothingTold(t, "one call too many", m)
	// What is twice is of any kind, and of no say in what counts are told.
	for _, op := range bringing {
		c := failedCall(callOver(op, 7, 7, 3, 9), impl.ErrFull)
		wantVerdict(t, "twice, and all else true", historyOf(c, c), verdict{no, noPair, noPair, noPair, yes})
	}
}

// What is said of the queue hangs on puts and takes alone, and so on.
func TestEachSaysOfItsOwnCalls(t *testing.T) {
	calls := []impl.Call{putOver(5, 0, 4), takeOver(5, 1, 3), swapOver(5, 8, 0, 6), swapOver(8, 5, 2, 9), pushOver(5, 0, 4), popOver(5, 4, 8), countOver(0, 0, 3), countOver(1, 0, 4)}
	wantVerdict(t, "all true", historyOf(calls...), allTrue)
	for what, c := range map[string]struct {
		more impl.Call
		want verdict
	}{
		"a take":  {takeOver(6, 1, 3), verdict{yes, no, yes, yes, yes}},
		"a put":   {putOver(6, 1, 3), verdict{yes, no, yes, yes, yes}},
		"a swap":  {swapOver(6, 7, 1, 3), verdict{yes, yes, no, yes, yes}},
		"a pop":   {popOver(6, 1, 3), verdict{yes, yes, yes, no, yes}},
		"a push":  {pushOver(6, 1, 3), verdict{yes, yes, yes, no, yes}},
		"a count": {countOver(5, 1, 3), verdict{yes, yes, yes, yes, no}},
	} {
		for at := range len(calls) + 1 {
			m := historyOf(slices.Insert(slices.Clone(calls), at, c.more)...)
			wantVerdict(t, what, m, c.want)
		}
	}
	wantVerdict(t, "something lies there", withCells(historyOf(calls...), lying(6)), verdict{yes, yes, yes, no, yes})
}
