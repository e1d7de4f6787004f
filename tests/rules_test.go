package tests

import (
	"fmt"
	"math"
	"slices"
	"testing"

	"loop.example/g00624/impl"
)

const guard = 77777

// guarded has room behind its end, filled so that a write there shows.
func guarded(list ...int) []int {
	all := append(slices.Clone(list), slices.Repeat([]int{guard}, 16)...)
	return all[:len(list)]
}

func wantUntouched(t *testing.T, what string, list []int, was ...int) {
	t.Helper()
	if !slices.Equal(list, was) {
		t.Errorf("%s: the argument is %v, was %v", what, list, was)
	}
	for _, v := range list[len(list):cap(list)][:16] {
		if v != guard {
			t.Errorf("%s: something was written behind the argument's end", what)
		}
	}
}

// arenaCalls are all calls that answer an arena.
func arenaCalls() map[string]func(a impl.Arena, list []int) (impl.Arena, int) {
	return map[string]func(a impl.Arena, list []int) (impl.Arena, int){
		"StoreCell": func(a impl.Arena, _ []int) (impl.Arena, int) { return impl.StoreCell(a, 2, 9) },
		"CasCell": func(a impl.Arena, _ []int) (impl.Arena, int) {
			b, _, code := impl.CasCell(a, 2, 6, 9)
			return b, code
		},
		"CasCell of another": func(a impl.Arena, _ []int) (impl.Arena, int) {
			b, _, code := impl.CasCell(a, 2, 8, 9)
			return b, code
		},
		"AddCell": func(a impl.Arena, _ []int) (impl.Arena, int) {
			b, _, code := impl.AddCell(a, 2, 3)
			return b, code
		},
		"AddCell of 0": func(a impl.Arena, _ []int) (impl.Arena, int) {
			b, _, code := impl.AddCell(a, 2, 0)
			return b, code
		},
		"AllocCells": func(a impl.Arena, list []int) (impl.Arena, int) {
			b, _, code := impl.AllocCells(a, list)
			return b, code
		},
	}
}

func TestNoArgumentChanges(t *testing.T) {
	for name, call := range arenaCalls() {
		cells, list := guarded(0, 5, 6), guarded(1, 2)
		b, code := call(impl.Arena{Cells: cells}, list)
		wantCode(t, name, code, impl.OK)
		wantUntouched(t, name, cells, 0, 5, 6)
		wantUntouched(t, name, list, 1, 2)
		// A write into all of the answer's memory must not be seen in an argument.
		all := b.Cells[:cap(b.Cells)]
		for i := range all {
			all[i] = -1
		}
		wantUntouched(t, name+" after a write into its answer", cells, 0, 5, 6)
		wantUntouched(t, name+" after a write into its answer", list, 1, 2)
	}
}

func TestFullAnswerIsNewMemory(t *testing.T) {
	a := impl.Arena{Cells: make([]int, impl.MaxCells)}
	b, _, code := impl.AllocCells(a, []int{1})
	wantCode(t, "AllocCells", code, impl.ErrFull)
	b.Cells[5] = 3
	if a.Cells[5] != 0 {
		t.Error("what is answered as it was shares memory with the argument")
	}
}

func TestAnswersDoNotHangOnEarlierCalls(t *testing.T) {
	a := arenaOf(0, 5, 6)
	for name, call := range arenaCalls() {
		first, code := call(a, []int{1, 2})
		kept := slices.Clone(first.Cells)
		for _, other := range arenaCalls() {
			other(first, []int{3, 4})
			other(arenaOf(0, 1, 2, 3), []int{7})
			other(impl.Arena{}, nil)
		}
		for i := range first.Cells {
			first.Cells[i] = -1
		}
		again, code2 := call(a, []int{1, 2})
		if code != code2 || !slices.Equal(again.Cells, kept) {
			t.Error(name, "answers", again.Cells, code2, "and was", kept, code)
		}
	}
}

func TestNilAndEmptyAreTheSame(t *testing.T) {
	empty := impl.Arena{Cells: []int{}}
	if impl.ArenaOK(impl.Arena{}) != impl.ArenaOK(empty) {
		t.Error("ArenaOK tells nil from empty")
	}
	_, _, code := impl.AllocCells(impl.NewArena(), nil)
	_, _, code2 := impl.AllocCells(impl.NewArena(), []int{})
	if code != code2 {
		t.Error("AllocCells tells nil from empty:", code, code2)
	}
	for name, call := range arenaCalls() {
		_, code := call(impl.Arena{}, []int{1})
		_, code2 := call(empty, []int{1})
		if code != code2 {
			t.Error(name, "tells nil from empty:", code, code2)
		}
	}
}

// sayAll calls everything with what it is given, and tells all answers.
func sayAll(a impl.Arena, list []int, at, v int) string {
	s := fmt.Sprintf("%.80q %v ", impl.CodeWord(at), impl.ArenaOK(a))
	x, code := impl.LoadCell(a, at)
	s += fmt.Sprintln(x, code)
	b, code := impl.StoreCell(a, at, v)
	s += fmt.Sprintln(b, code)
	b, ok, code := impl.CasCell(a, at, v, v)
	s += fmt.Sprintln(b, ok, code)
	b, was, code := impl.AddCell(a, at, v)
	s += fmt.Sprintln(b, was, code)
	b, first, code := impl.AllocCells(a, list)
	return s + fmt.Sprintln(b, first, code, impl.SameArena(a, b))
}

func TestNothingPanicsAndAlikeAnswersAlike(t *testing.T) {
	numbers := []int{math.MinInt, -impl.MaxWord - 1, -1, 0, 1, 2, 400, impl.MaxWord, impl.MaxWord + 1, math.MaxInt}
	arenas := []impl.Arena{arenaOf(0), arenaOf(0, impl.MaxWord), arenaOf(0, -impl.MaxWord, 1), {Cells: make([]int, impl.MaxCells)}}
	for _, a := range badArenas() {
		arenas = append(arenas, a)
	}
	lists := [][]int{nil, {1}, {math.MinInt}, make([]int, 8), make([]int, 9), make([]int, impl.MaxList+1)}
	for _, a := range arenas {
		for i, at := range numbers {
			for j, v := range numbers {
				list := lists[(i+j)%len(lists)]
				alike := impl.Arena{Cells: slices.Clone(a.Cells)}
				if sayAll(a, list, at, v) != sayAll(alike, slices.Clone(list), at, v) {
					t.Error("alike arguments, other answers:", at, v)
				}
			}
		}
	}
}

// sayThread calls all that is about threads with what it is given, and tells all answers.
func sayThread(x impl.Thread, op, arg, until int) string {
	word, code := impl.OpWord(op)
	s := fmt.Sprintln(impl.ThreadOK(x), word, code, impl.OpOf(word), impl.IsWaiting(op))
	n, code := impl.NewThread(arg)
	s += fmt.Sprintln(n, code)
	b, code := impl.BeginCall(x, op, arg, until)
	s += fmt.Sprintln(b, code)
	c, code := impl.CancelThread(x)
	return s + fmt.Sprintln(c, code) + sayPark(x, until)
}

// sayPark calls all that is about parking with what it is given, and tells all answers.
func sayPark(x impl.Thread, now int) string {
	s := ""
	for _, call := range parkCalls {
		y, code := call.do(x)
		s += fmt.Sprintln(call.name, y, code)
	}
	over, code := impl.GivesUp(x, now)
	s += fmt.Sprintln(over, code)
	y, code := impl.ExpireThread(x, now)
	return s + fmt.Sprintln(y, code)
}

func TestThreadCallsDoNotHangOnEarlierOnes(t *testing.T) {
	numbers := []int{math.MinInt, -1, 0, 1, 3, 6, 7, 999, 1000, 1000000, 1000001, math.MaxInt}
	threads := slices.Concat(idleThreads(), busyThreads(), runningThreads(), parkedThreads())
	for _, x := range badThreads() {
		threads = append(threads, x)
	}
	first := map[string]string{}
	for turn := range 2 {
		for i, x := range threads {
			was := x
			for j, op := range numbers {
				arg, until := numbers[(i+j)%len(numbers)], numbers[(i+3*j)%len(numbers)]
				key := fmt.Sprint(x, op, arg, until)
				said := sayThread(x, op, arg, until)
				if turn == 0 {
					first[key] = said
				}
				if said != first[key] {
					t.Errorf("alike arguments, other answers: %s: %s and %s", key, said, first[key])
				}
			}
			wantThread(t, "what was handed in", x, was)
		}
	}
}
