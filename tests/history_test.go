package tests

import (
	"fmt"
	"slices"
	"testing"

	"loop.example/g00624/impl"
)

// spanned is a count from one step to another one, or under way where to is 0.
func spanned(from, to int) impl.Call { return impl.Call{Op: impl.OpCount, From: from, To: to} }

// inOrderOf is what lies between two calls.
type inOrderOf struct{ overlap, before, behind bool }

func orderOf(t *testing.T, what string, a, b impl.Call) (is inOrderOf) {
	t.Helper()
	var codes [4]int
	var other bool
	is.overlap, codes[0] = impl.Overlaps(a, b)
	other, codes[1] = impl.Overlaps(b, a)
	is.before, codes[2] = impl.IsBefore(a, b)
	is.behind, codes[3] = impl.IsBefore(b, a)
	if codes != [4]int{} || other != is.overlap {
		t.Errorf("%s: %+v and %+v: codes %v, and Overlaps is %v and %v", what, a, b, codes, is.overlap, other)
	}
	return is
}

func TestOrderOfTwoCalls(t *testing.T) {
	ahead, over, behind := inOrderOf{before: true}, inOrderOf{overlap: true}, inOrderOf{behind: true}
	for what, c := range map[string]struct {
		a, b impl.Call
		want inOrderOf
	}{
		"one ends ahead of the other's beginning":     {spanned(2, 4), spanned(5, 7), ahead},
		"one ends where the other one begins":         {spanned(2, 5), spanned(5, 7), ahead},
		"one ends behind the other's beginning":       {spanned(2, 6), spanned(5, 7), over},
		"one begins where the other one ends":         {spanned(5, 7), spanned(2, 5), behind},
		"one within the other":                        {spanned(2, 9), spanned(4, 6), over},
		"one within the other, from its beginning":    {spanned(2, 9), spanned(2, 3), over},
		"one within the other, to its end":            {spanned(2, 9), spanned(8, 9), over},
		"two alike":                                   {spanned(2, 3), spanned(2, 3), over},
		"one under way, and one over ahead of it":     {spanned(5, 0), spanned(2, 4), behind},
		"one under way, and one over at its start":    {spanned(5, 0), spanned(2, 5), behind},
		"one under way, and one over behind it":       {spanned(5, 0), spanned(2, 6), over},
		"one under way, and one begun where it was":   {spanned(5, 0), spanned(5, 6), over},
		"one under way, and one that is later":        {spanned(5, 0), spanned(8, 9), over},
		"one under way from 0, and one that is later": {spanned(0, 0), spanned(8, 9), over},
		"one under way from 0, and one from 0":        {spanned(0, 0), spanned(0, 1), over},
		"one under way, and one over at the end":      {spanned(1000000, 0), spanned(0, 1000000), behind},
		"two under way":                               {spanned(5, 0), spanned(8, 0), over},
		"two under way, alike":                        {spanned(5, 0), spanned(5, 0), over},
		"two under way from 0":                        {spanned(0, 0), spanned(0, 0), over},
		"from 0 to 1, and from 1 on":                  {spanned(0, 1), spanned(1, 0), ahead},
		"the first step and the last one":             {spanned(0, 1), spanned(999999, 1000000), ahead},
		"all steps and the last one":                  {spanned(0, 1000000), spanned(999999, 1000000), over},
	} {
		if got := orderOf(t, what, c.a, c.b); got != c.want {
			t.Errorf("%s: %+v, want %+v", what, got, c.want)
		}
		if got, want := orderOf(t, what, c.b, c.a), (inOrderOf{c.want.overlap, c.want.behind, c.want.before}); got != want {
			t.Errorf("%s, the other way: %+v, want %+v", what, got, want)
		}
	}
}

// everySpan has all calls that begin at one of eight steps from first on, and
// end by the last of these, or are under way. They differ in all else, which is
// not to matter.
func everySpan(first int) []impl.Call {
	var all []impl.Call
	for from := first; from <= first+7; from++ {
		for to := from; to <= first+7; to++ {
			k := callKinds[len(all)%6]
			c := impl.Call{Thread: len(all) % 4, Op: k.op, Arg: min(k.mostArg(), len(all)), From: from}
			if to > from {
				c.To, c.Code, c.Result = to, len(all)%20, len(all)
			}
			all = append(all, c)
		}
	}
	return all
}

// underWayAt tells whether the step is one of a call's own.
func underWayAt(c impl.Call, step int) bool {
	return step >= c.From && (c.To == 0 || step < c.To)
}

// wantOrder goes by the steps at which both are under way. It is the first half
// of promise 10, too: just one of the three is so.
func wantOrder(t *testing.T, a, b impl.Call, steps []int) {
	t.Helper()
	want := inOrderOf{before: true, behind: true}
	for _, step := range steps {
		if underWayAt(a, step) && underWayAt(b, step) {
			want.overlap = true
		}
		if underWayAt(a, step) && step >= b.From {
			want.before = false
		}
		if underWayAt(b, step) && step >= a.From {
			want.behind = false
		}
	}
	if got := orderOf(t, "two calls", a, b); got != want {
		t.Errorf("%+v and %+v: %+v, want %+v", a, b, got, want)
	}
	if !slices.Contains([]inOrderOf{{overlap: true}, {before: true}, {behind: true}}, want) {
		t.Errorf("%+v and %+v: not just one of the three: %+v", a, b, want)
	}
}

func TestOrderOfEveryTwoSpans(t *testing.T) {
	for _, first := range []int{0, 1, 500, 999993} {
		var steps []int
		for step := range 12 {
			steps = append(steps, first+step)
		}
		for _, a := range everySpan(first) {
			for _, b := range everySpan(first) {
				wantOrder(t, a, b, steps)
			}
		}
	}
}

func TestOrderOfCallsThatAreNotRight(t *testing.T) {
	for name, bad := range badCalls() {
		pairs := [][2]impl.Call{{bad, bad}}
		for _, good := range []impl.Call{spanned(0, 0), spanned(0, 1), spanned(0, 1000000), spanned(1000000, 0), spanned(3, 9)} {
			pairs = append(pairs, [2]impl.Call{bad, good}, [2]impl.Call{good, bad})
		}
		for _, p := range pairs {
			if is, code := impl.Overlaps(p[0], p[1]); is || code != impl.ErrBad {
				t.Errorf("%s: Overlaps of %+v is %v %d", name, p, is, code)
			}
			if is, code := impl.IsBefore(p[0], p[1]); is || code != impl.ErrBad {
				t.Errorf("%s: IsBefore of %+v is %v %d", name, p, is, code)
			}
		}
		wantSpan(t, name, bad, 0, impl.ErrBad)
	}
}

func wantSpan(t *testing.T, what string, c impl.Call, want, wantedCode int) {
	t.Helper()
	if got, code := impl.SpanOf(c); got != want || code != wantedCode {
		t.Errorf("%s: SpanOf of %+v is %d %d, want %d %d", what, c, got, code, want, wantedCode)
	}
}

func TestSpanOf(t *testing.T) {
	for _, first := range []int{0, 1, 500, 999993} {
		for _, c := range everySpan(first) {
			if c.To == 0 {
				wantSpan(t, "under way", c, 0, impl.ErrNone)
				continue
			}
			want := 0
			for step := first; step <= first+9; step++ {
				if underWayAt(c, step) {
					want++
				}
			}
			wantSpan(t, "over", c, want, impl.OK)
		}
	}
	wantSpan(t, "one step", spanned(0, 1), 1, impl.OK)
	wantSpan(t, "all steps", spanned(0, 1000000), 1000000, impl.OK)
	wantSpan(t, "one that failed", impl.Call{Op: impl.OpPop, From: 3, To: 9, Code: impl.ErrEmpty}, 6, impl.OK)
	wantSpan(t, "under way from 0", spanned(0, 0), 0, impl.ErrNone)
	wantSpan(t, "under way from the last step", spanned(1000000, 0), 0, impl.ErrNone)
}

// historyOf is a machine at the step 20 that has these calls, and the threads
// whose calls are under way.
func historyOf(calls ...impl.Call) impl.Machine {
	m := machineOf()
	m.Calls = calls
	for _, c := range calls {
		if c.To == 0 {
			m.Threads[c.Thread] = running(c.Thread, c.Op, c.Arg, 0, [5]int{})
		}
	}
	return m
}

// mixedCalls are in the order in which they began, and of all six kinds.
func mixedCalls() []impl.Call {
	return []impl.Call{
		{Thread: 0, Op: impl.OpPut, Arg: 5, From: 0, To: 9, Result: 5},
		{Thread: 1, Op: impl.OpTake, From: 2, To: 8, Result: 5},
		{Thread: 2, Op: impl.OpPop, From: 3, To: 4, Code: impl.ErrEmpty},
		{Thread: 2, Op: impl.OpPush, Arg: 7, From: 4, To: 8, Result: 7},
		{Thread: 3, Op: impl.OpSwap, Arg: 1, From: 5},
		{Thread: 1, Op: impl.OpPut, Arg: 6, From: 8, To: 12, Code: impl.ErrTimeout},
		{Thread: 2, Op: impl.OpPop, From: 8},
		{Thread: 0, Op: impl.OpPut, Arg: 8, From: 9},
		{Thread: 1, Op: impl.OpCount, From: 12, To: 15},
		{Thread: 1, Op: impl.OpCount, From: 15, To: 18, Result: 1},
	}
}

// histories are machines that are right, with none of their calls, one, some, and many.
func histories() map[string]impl.Machine {
	mixed := mixedCalls()
	all := map[string]impl.Machine{
		"no calls":        historyOf(),
		"new":             impl.NewMachine(),
		"one under way":   historyOf(impl.Call{Thread: 2, Op: impl.OpTake, From: 20}),
		"one from 0":      historyOf(impl.Call{Thread: 3, Op: impl.OpCount}),
		"one that failed": historyOf(impl.Call{Thread: 1, Op: impl.OpSwap, Arg: 8, To: 20, Code: impl.ErrCancelled}),
		"one that is ok":  historyOf(impl.Call{Thread: 0, Op: impl.OpPush, Arg: 999, From: 19, To: 20, Result: 999}),
		"all under way": historyOf(impl.Call{Thread: 1, Op: impl.OpPut, From: 2}, impl.Call{Thread: 0, Op: impl.OpPut, From: 2},
			impl.Call{Thread: 3, Op: impl.OpSwap, Arg: 4, From: 7}, impl.Call{Thread: 2, Op: impl.OpPop, From: 20}),
		"mixed":             historyOf(mixed...),
		"two alike":         historyOf(mixed[2], mixed[2]),
		"a thread's, alike": historyOf(mixed[8], mixed[8], mixed[9], mixed[9], mixed[8]),
		"one after another": historyOf(spanned(0, 1), spanned(1, 2), spanned(2, 5), spanned(5, 20), spanned(20, 0)),
		"parked ones":       machineOf(parkedAt(takeAt(9)), parkedAt(putAt(9)), parkedAt(running(0, impl.OpSwap, 3, 3, [5]int{}))),
	}
	turned := slices.Clone(mixed)
	slices.Reverse(turned)
	all["mixed, turned round"] = historyOf(turned...)
	all["mixed, in another order"] = historyOf(slices.Concat(mixed[6:], mixed[3:6], mixed[:3])...)
	// Many that began at once stay in the order of the list, and their numbers tell it.
	var many []impl.Call
	for i := range 200 {
		k := callKinds[i%6]
		c := impl.Call{Thread: i / 7 % 4, Op: k.op, From: 3 - i/3%4, To: 5 + i%15, Result: i}
		if i%5 == 0 {
			c.Code, c.Result = 1+i%19, 0
		}
		many = append(many, c)
	}
	all["many that began at once"] = historyOf(many...)
	all["many, and one under way"] = historyOf(append(many, impl.Call{Thread: 3, Op: impl.OpPut, Arg: 3, From: 2})...)
	return all
}

// callsBegun looks for the calls step by step, so that they are in the order in which they began.
func callsBegun(m impl.Machine, is func(impl.Call) bool) (list []impl.Call) {
	for from := range m.Steps + 1 {
		for _, c := range m.Calls {
			if c.From == from && is(c) {
				list = append(list, c)
			}
		}
	}
	return list
}

func wantCalls(t *testing.T, what string, got []impl.Call, code int, want []impl.Call, wantedCode int) {
	t.Helper()
	if code != wantedCode || !slices.Equal(got, want) {
		t.Errorf("%s: %v %d, want %v %d", what, got, code, want, wantedCode)
	}
}

func wantLast(t *testing.T, what string, m impl.Machine, thread int, want impl.Call, wantedCode int) {
	t.Helper()
	if got, code := impl.LastOf(m, thread); got != want || code != wantedCode {
		t.Errorf("%s: LastOf %d is %+v %d, want %+v %d", what, thread, got, code, want, wantedCode)
	}
}

func wantConcurrent(t *testing.T, what string, m impl.Machine, want, wantedCode int) {
	t.Helper()
	if got, code := impl.Concurrent(m); got != want || code != wantedCode {
		t.Errorf("%s: Concurrent is %d %d, want %d %d", what, got, code, want, wantedCode)
	}
}

// wantHistory: all that a machine's calls come to.
func wantHistory(t *testing.T, what string, m impl.Machine) {
	t.Helper()
	for _, k := range callKinds {
		list, code := impl.CallsOf(m, k.op)
		wantCalls(t, what+", calls of "+k.word, list, code, callsBegun(m, func(c impl.Call) bool { return c.Op == k.op }), impl.OK)
		list, code = impl.GoodCalls(m, k.op)
		wantCalls(t, what+", good calls of "+k.word, list, code, callsBegun(m, func(c impl.Call) bool { return c.Op == k.op && c.To > 0 && c.Code == impl.OK }), impl.OK)
	}
	list, code := impl.OpenCalls(m)
	wantCalls(t, what+", under way", list, code, callsBegun(m, func(c impl.Call) bool { return c.To == 0 }), impl.OK)
	for k := range 4 {
		own := callsBegun(m, func(c impl.Call) bool { return c.Thread == k })
		list, code := impl.ThreadCalls(m, k)
		wantCalls(t, fmt.Sprint(what, ", calls of thread ", k), list, code, own, impl.OK)
		if len(own) == 0 {
			wantLast(t, what, m, k, impl.Call{}, impl.ErrNone)
		} else {
			wantLast(t, what, m, k, own[len(own)-1], impl.OK)
		}
	}
	pairs := 0
	for i, a := range m.Calls {
		for _, b := range m.Calls[:i] {
			for step := range m.Steps + 1 {
				if underWayAt(a, step) && underWayAt(b, step) {
					pairs++
					break
				}
			}
		}
	}
	wantConcurrent(t, what, m, pairs, impl.OK)
}

func TestHistories(t *testing.T) {
	for name, m := range histories() {
		wantMachineOK(t, name, m, true)
		wantHistory(t, name, m)
	}
	for _, x := range slices.Concat(busyThreads(), runningThreads(), parkedThreads()) {
		wantHistory(t, "one call", machineOf(x))
		wantHistory(t, "one call, others that ended", withEnded(machineOf(x), 2))
	}
}

func TestHistoryByHand(t *testing.T) {
	calls := mixedCalls()
	of := func(list ...int) (out []impl.Call) {
		for _, i := range list {
			out = append(out, calls[i])
		}
		return out
	}
	kinds := [][]int{{0, 5, 7}, {1}, {4}, {3}, {2, 6}, {8, 9}}
	good := [][]int{{0}, {1}, {}, {3}, {}, {8, 9}}
	threads := [][]int{{0, 7}, {1, 5, 8, 9}, {2, 3, 6}, {4}}
	turned := slices.Clone(calls)
	slices.Reverse(turned)
	for what, m := range map[string]impl.Machine{"in order": historyOf(calls...), "turned round": historyOf(turned...)} {
		for i := range 6 {
			list, code := impl.CallsOf(m, i+1)
			wantCalls(t, what+": CallsOf "+callKinds[i].word, list, code, of(kinds[i]...), impl.OK)
			list, code = impl.GoodCalls(m, i+1)
			wantCalls(t, what+": GoodCalls "+callKinds[i].word, list, code, of(good[i]...), impl.OK)
		}
		list, code := impl.OpenCalls(m)
		wantCalls(t, what+": OpenCalls", list, code, of(4, 6, 7), impl.OK)
		for k := range 4 {
			list, code := impl.ThreadCalls(m, k)
			wantCalls(t, fmt.Sprint(what, ": ThreadCalls ", k), list, code, of(threads[k]...), impl.OK)
			wantLast(t, what, m, k, calls[[4]int{7, 9, 6, 4}[k]], impl.OK)
		}
		// Of those that began behind it, each one overlaps with so many.
		wantConcurrent(t, what, m, 6+3+0+1+5+2+3+2+0, impl.OK)
	}
}

// Those that began at once are in the order of the list; a thread's last one is the last of them.
func TestCallsThatBeganAtOnce(t *testing.T) {
	a := impl.Call{Thread: 1, Op: impl.OpCount, From: 4, To: 5, Result: 8}
	b := impl.Call{Thread: 1, Op: impl.OpCount, From: 4, To: 9, Result: 3}
	c := impl.Call{Thread: 1, Op: impl.OpCount, From: 2, To: 12, Result: 5}
	for _, list := range [][]impl.Call{{a, b, c}, {b, a, c}, {a, c, b}, {b, c, a}, {c, a, b}, {c, b, a}} {
		own := slices.DeleteFunc(slices.Clone(list), func(x impl.Call) bool { return x == c })
		m := historyOf(list...)
		got, code := impl.CallsOf(m, impl.OpCount)
		wantCalls(t, "began at once", got, code, []impl.Call{c, own[0], own[1]}, impl.OK)
		wantLast(t, "began at once", m, 1, own[1], impl.OK)
	}
}

func TestLastOf(t *testing.T) {
	over := impl.Call{Thread: 2, Op: impl.OpPop, From: 3, To: 4, Code: impl.ErrEmpty}
	later := impl.Call{Thread: 2, Op: impl.OpPush, Arg: 7, From: 4, To: 8, Result: 7}
	open := impl.Call{Thread: 2, Op: impl.OpPut, Arg: 7, From: 8}
	early := impl.Call{Thread: 2, Op: impl.OpPut, Arg: 7, From: 2}
	for _, c := range []struct {
		what  string
		calls []impl.Call
		want  impl.Call
		code  int
	}{
		{"it has none", nil, impl.Call{}, impl.ErrNone},
		{"it has none, others have", []impl.Call{mixedCalls()[0], mixedCalls()[1]}, impl.Call{}, impl.ErrNone},
		{"one that is over", []impl.Call{over}, over, impl.OK},
		{"two that are over", []impl.Call{over, later}, later, impl.OK},
		{"two that are over, the later one first", []impl.Call{later, over}, later, impl.OK},
		{"one under way", []impl.Call{open}, open, impl.OK},
		{"one under way, others over", []impl.Call{over, later, open}, open, impl.OK},
		{"one under way that is the first of the list", []impl.Call{open, over, later}, open, impl.OK},
		{"one under way that began ahead of the others", []impl.Call{over, later, early}, later, impl.OK},
		{"others' calls behind it", []impl.Call{over, mixedCalls()[8], mixedCalls()[9]}, over, impl.OK},
	} {
		m := historyOf(c.calls...)
		wantMachineOK(t, c.what, m, true)
		wantLast(t, c.what, m, 2, c.want, c.code)
		wantLast(t, c.what, m, 3, impl.Call{}, impl.ErrNone)
	}
}

func TestConcurrent(t *testing.T) {
	open := []impl.Call{{Op: impl.OpTake, From: 3}, {Thread: 1, Op: impl.OpTake, From: 9}, {Thread: 2, Op: impl.OpPut, From: 9}, {Thread: 3, Op: impl.OpPop, From: 20}}
	for n, want := range []int{0, 0, 1, 3, 6} {
		wantConcurrent(t, fmt.Sprint("under way: ", n), historyOf(open[:n]...), want, impl.OK)
	}
	wantConcurrent(t, "one that is over", historyOf(spanned(3, 9)), 0, impl.OK)
	wantConcurrent(t, "one ends where the other one begins", historyOf(spanned(3, 9), spanned(9, 12)), 0, impl.OK)
	wantConcurrent(t, "one ends where the other one begins, turned round", historyOf(spanned(9, 12), spanned(3, 9)), 0, impl.OK)
	wantConcurrent(t, "one ends behind the other's beginning", historyOf(spanned(3, 10), spanned(9, 12)), 1, impl.OK)
	wantConcurrent(t, "one within the other", historyOf(spanned(3, 10), spanned(5, 6)), 1, impl.OK)
	wantConcurrent(t, "two alike", historyOf(spanned(3, 10), spanned(3, 10)), 1, impl.OK)
	wantConcurrent(t, "three alike", historyOf(spanned(3, 10), spanned(3, 10), spanned(3, 10)), 3, impl.OK)
	wantConcurrent(t, "one under way, one over ahead of it", historyOf(open[1], spanned(3, 9)), 0, impl.OK)
	wantConcurrent(t, "one under way, one over behind it", historyOf(open[1], spanned(3, 10)), 1, impl.OK)
	wantConcurrent(t, "one under way, one that is later", historyOf(open[0], spanned(12, 15)), 1, impl.OK)
}

// As many calls as a machine may have.
func TestHistoryOfManyCalls(t *testing.T) {
	var row, heap []impl.Call
	for i := range impl.MaxList {
		row = append(row, impl.Call{Thread: i % 4, Op: impl.OpPop, From: 200 * i, To: 200*i + 200, Result: i})
		heap = append(heap, impl.Call{Thread: i % 4, Op: impl.OpPop, From: i % 50, To: 60 + i%7, Result: i})
	}
	turned := slices.Clone(row)
	slices.Reverse(turned)
	for what, calls := range map[string][]impl.Call{"in a row": row, "in a row, turned round": turned} {
		m := atTimes(historyOf(calls...), 4, impl.MaxTime)
		list, code := impl.CallsOf(m, impl.OpPop)
		wantCalls(t, what, list, code, row, impl.OK)
		list, code = impl.GoodCalls(m, impl.OpPop)
		wantCalls(t, what, list, code, row, impl.OK)
		wantLast(t, what, m, 3, row[impl.MaxList-1], impl.OK)
		wantConcurrent(t, what, m, 0, impl.OK)
	}
	m := atTimes(historyOf(heap...), 4, 100)
	list, code := impl.CallsOf(m, impl.OpPop)
	wantCalls(t, "in a heap", list, code, callsBegun(m, func(impl.Call) bool { return true }), impl.OK)
	wantConcurrent(t, "in a heap", m, impl.MaxList*(impl.MaxList-1)/2, impl.OK)
	m.Calls = append(m.Calls, spanned(0, 1))
	wantNoHistory(t, "one call too many", m, impl.OpPop, 0, impl.ErrBad)
}

// wantNoHistory: each call answers the code, and nothing else; those that are given no number, only of ErrBad.
func wantNoHistory(t *testing.T, what string, m impl.Machine, op, thread, want int) {
	t.Helper()
	list, code := impl.CallsOf(m, op)
	wantCalls(t, fmt.Sprint(what, ", CallsOf ", op), list, code, nil, want)
	list, code = impl.GoodCalls(m, op)
	wantCalls(t, fmt.Sprint(what, ", GoodCalls ", op), list, code, nil, want)
	list, code = impl.ThreadCalls(m, thread)
	wantCalls(t, fmt.Sprint(what, ", ThreadCalls ", thread), list, code, nil, want)
	wantLast(t, what, m, thread, impl.Call{}, want)
	if want == impl.ErrBad {
		list, code = impl.OpenCalls(m)
		wantCalls(t, what+", OpenCalls", list, code, nil, want)
		wantConcurrent(t, what, m, 0, want)
	}
}

// A machine that is not right comes ahead of a number that is out of its bounds.
func TestHistoryFaults(t *testing.T) {
	ops := append([]int{-1, 0, 7, 8, 257, 258}, farNumbers...)
	threads := append([]int{-1, 4, 5, -4, 256, 257}, farNumbers...)
	bad := badMachines()
	for name, c := range badCalls() {
		m := historyOf(mixedCalls()...)
		m.Calls = append(m.Calls, c)
		bad["a call: "+name] = m
	}
	for name, m := range bad {
		wantMachineOK(t, name, m, false)
		for i := range ops {
			wantNoHistory(t, name, m, ops[i], threads[i], impl.ErrBad)
		}
		for _, k := range callKinds {
			wantNoHistory(t, name, m, k.op, k.op%4, impl.ErrBad)
		}
	}
	for name, m := range histories() {
		for i := range ops {
			wantNoHistory(t, name, m, ops[i], threads[i], impl.ErrRange)
		}
	}
}
