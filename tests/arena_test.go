package tests

import (
	"math"
	"math/rand"
	"slices"
	"testing"

	"loop.example/g00624/impl"
)

func arenaOf(cells ...int) impl.Arena { return impl.Arena{Cells: cells} }

func wantCells(t *testing.T, what string, a impl.Arena, cells ...int) {
	t.Helper()
	if !slices.Equal(a.Cells, cells) {
		t.Errorf("%s: cells %v, want %v", what, a.Cells, cells)
	}
}

func wantCode(t *testing.T, what string, code, want int) {
	t.Helper()
	if code != want {
		t.Errorf("%s: code %d (%s), want %d (%s)", what, code, impl.CodeWord(code), want, impl.CodeWord(want))
	}
}

func badArenas() map[string]impl.Arena {
	return map[string]impl.Arena{
		"nil":              {},
		"empty":            {Cells: []int{}},
		"cell 0 is 1":      arenaOf(1, 2, 3),
		"cell 0 is -1":     arenaOf(-1, 2, 3),
		"401 cells":        {Cells: make([]int, impl.MaxCells+1)},
		"a list too long":  {Cells: make([]int, impl.MaxList+1)},
		"a cell above":     arenaOf(0, 2, impl.MaxWord+1),
		"a cell below":     arenaOf(0, -impl.MaxWord-1, 2),
		"the greatest int": arenaOf(0, 2, math.MaxInt),
		"the least int":    arenaOf(0, math.MinInt, 2),
	}
}

func TestNewArena(t *testing.T) {
	a := impl.NewArena()
	wantCells(t, "NewArena", a, 0)
	if !impl.ArenaOK(a) {
		t.Error("a new arena is not right")
	}
	a.Cells[0] = 5
	wantCells(t, "NewArena after its answer was changed", impl.NewArena(), 0)
}

func TestArenaOK(t *testing.T) {
	good := []impl.Arena{
		arenaOf(0), arenaOf(0, 0), arenaOf(0, impl.MaxWord, -impl.MaxWord),
		{Cells: make([]int, impl.MaxCells-1)}, {Cells: make([]int, impl.MaxCells)},
	}
	for i, a := range good {
		if !impl.ArenaOK(a) {
			t.Error("a right arena is refused:", i)
		}
	}
	last := impl.Arena{Cells: make([]int, impl.MaxCells)}
	last.Cells[impl.MaxCells-1] = impl.MaxWord + 1
	if impl.ArenaOK(last) {
		t.Error("a last cell out of bounds is taken")
	}
	for name, a := range badArenas() {
		if impl.ArenaOK(a) {
			t.Error("taken as right:", name)
		}
	}
}

// A bad arena comes ahead of every other fault, and all else is zero.
func TestBadArenaComesFirst(t *testing.T) {
	for name, a := range badArenas() {
		for _, at := range []int{-1, 0, 1, 500} {
			v, code := impl.LoadCell(a, at)
			wantCode(t, "LoadCell of "+name, code, impl.ErrBad)
			s, code := impl.StoreCell(a, at, impl.MaxWord+1)
			wantCode(t, "StoreCell of "+name, code, impl.ErrBad)
			c, ok, code := impl.CasCell(a, at, 2, impl.MaxWord+1)
			wantCode(t, "CasCell of "+name, code, impl.ErrBad)
			n, was, code := impl.AddCell(a, at, impl.MaxWord+1)
			wantCode(t, "AddCell of "+name, code, impl.ErrBad)
			if v != 0 || ok || was != 0 || len(s.Cells)+len(c.Cells)+len(n.Cells) != 0 {
				t.Error("not all is zero:", name, at)
			}
		}
		for _, list := range [][]int{nil, {1}, {impl.MaxWord + 1}, make([]int, 9), make([]int, impl.MaxList)} {
			x, at, code := impl.AllocCells(a, list)
			wantCode(t, "AllocCells of "+name, code, impl.ErrBad)
			if at != 0 || len(x.Cells) != 0 {
				t.Error("AllocCells: not all is zero:", name)
			}
		}
	}
}

func TestCellsOutOfRange(t *testing.T) {
	for _, a := range []impl.Arena{arenaOf(0), arenaOf(0, 5, 6), {Cells: make([]int, impl.MaxCells)}} {
		for _, at := range []int{math.MinInt, -1, 0, len(a.Cells), len(a.Cells) + 1, math.MaxInt} {
			v, code := impl.LoadCell(a, at)
			wantCode(t, "LoadCell", code, impl.ErrRange)
			s, code := impl.StoreCell(a, at, 0)
			wantCode(t, "StoreCell", code, impl.ErrRange)
			c, ok, code := impl.CasCell(a, at, 0, 0)
			wantCode(t, "CasCell", code, impl.ErrRange)
			n, was, code := impl.AddCell(a, at, 0)
			wantCode(t, "AddCell", code, impl.ErrRange)
			if v != 0 || ok || was != 0 || len(s.Cells)+len(c.Cells)+len(n.Cells) != 0 {
				t.Error("not all is zero:", at)
			}
		}
	}
}

func TestNumbersOutOfRange(t *testing.T) {
	a := arenaOf(0, 5, 6)
	for _, v := range []int{impl.MaxWord + 1, -impl.MaxWord - 1, math.MaxInt, math.MinInt} {
		s, code := impl.StoreCell(a, 1, v)
		wantCode(t, "StoreCell", code, impl.ErrRange)
		// Whether old is there makes no difference to a number that is out of its bounds.
		c, ok, code := impl.CasCell(a, 1, 5, v)
		wantCode(t, "CasCell of old", code, impl.ErrRange)
		d, other, code := impl.CasCell(a, 1, 7, v)
		wantCode(t, "CasCell of another", code, impl.ErrRange)
		n, was, code := impl.AddCell(a, 1, v)
		wantCode(t, "AddCell", code, impl.ErrRange)
		x, at, code := impl.AllocCells(a, []int{1, v, 2})
		wantCode(t, "AllocCells", code, impl.ErrRange)
		if ok || other || was != 0 || at != 0 || len(s.Cells)+len(c.Cells)+len(d.Cells)+len(n.Cells)+len(x.Cells) != 0 {
			t.Error("not all is zero:", v)
		}
	}
}

func TestStoreThenLoad(t *testing.T) {
	a := arenaOf(0, 5, -7, 9)
	for at := 1; at < 4; at++ {
		for _, v := range []int{0, 1, -1, impl.MaxWord, -impl.MaxWord} {
			b, code := impl.StoreCell(a, at, v)
			wantCode(t, "StoreCell", code, impl.OK)
			got, code := impl.LoadCell(b, at)
			wantCode(t, "LoadCell", code, impl.OK)
			if got != v {
				t.Errorf("cell %d: loaded %d, stored %d", at, got, v)
			}
			want := slices.Clone(a.Cells)
			want[at] = v
			wantCells(t, "StoreCell", b, want...)
		}
	}
	wantCells(t, "what was handed in", a, 0, 5, -7, 9)
}

func TestCasSecondFails(t *testing.T) {
	a := arenaOf(0, 5, 5)
	first, ok, code := impl.CasCell(a, 1, 5, 8)
	wantCode(t, "the first", code, impl.OK)
	if !ok {
		t.Error("the first fails")
	}
	wantCells(t, "the first", first, 0, 8, 5)
	second, ok, code := impl.CasCell(first, 1, 5, 9)
	wantCode(t, "the second", code, impl.OK)
	if ok {
		t.Error("the second does not fail")
	}
	wantCells(t, "the second", second, 0, 8, 5)
}

func TestCasOldMayBeAny(t *testing.T) {
	a := arenaOf(0, impl.MaxWord)
	for _, old := range []int{impl.MaxWord + 1, -impl.MaxWord - 1, math.MaxInt, math.MinInt, 0} {
		b, ok, code := impl.CasCell(a, 1, old, 3)
		wantCode(t, "CasCell", code, impl.OK)
		if ok {
			t.Error("CasCell from", old)
		}
		wantCells(t, "CasCell", b, 0, impl.MaxWord)
	}
	b, ok, code := impl.CasCell(a, 1, impl.MaxWord, impl.MaxWord)
	wantCode(t, "CasCell to the same", code, impl.OK)
	if !ok {
		t.Error("CasCell to the same fails")
	}
	wantCells(t, "CasCell to the same", b, 0, impl.MaxWord)
}

func TestAddTellsOtherNumbers(t *testing.T) {
	a := arenaOf(0, 0, 7)
	seen := map[int]bool{}
	for i := 0; i < 50; i++ {
		b, was, code := impl.AddCell(a, 1, 3)
		wantCode(t, "AddCell", code, impl.OK)
		if seen[was] || was != 3*i {
			t.Error("AddCell was", was, "in turn", i)
		}
		seen[was] = true
		a = b
	}
	wantCells(t, "AddCell", a, 0, 150, 7)
}

func TestAddBounds(t *testing.T) {
	rows := []struct{ cell, n, code int }{
		{impl.MaxWord, 0, impl.OK},
		{impl.MaxWord, 1, impl.ErrRange},
		{impl.MaxWord - 1, 1, impl.OK},
		{-impl.MaxWord, 0, impl.OK},
		{-impl.MaxWord, -1, impl.ErrRange},
		{1 - impl.MaxWord, -1, impl.OK},
		{0, impl.MaxWord, impl.OK},
		{0, -impl.MaxWord, impl.OK},
		{1, impl.MaxWord, impl.ErrRange},
		{-1, -impl.MaxWord, impl.ErrRange},
		{impl.MaxWord, -impl.MaxWord, impl.OK},
		{impl.MaxWord, impl.MaxWord, impl.ErrRange},
		{-impl.MaxWord, impl.MaxWord + 1, impl.ErrRange},
	}
	for _, r := range rows {
		b, was, code := impl.AddCell(arenaOf(0, r.cell, 4), 1, r.n)
		wantCode(t, "AddCell", code, r.code)
		if code == impl.OK {
			wantCells(t, "AddCell", b, 0, r.cell+r.n, 4)
		}
		if code == impl.OK && was != r.cell || code != impl.OK && (was != 0 || len(b.Cells) != 0) {
			t.Error("AddCell", r, was, b)
		}
	}
}

func TestAllocCells(t *testing.T) {
	a := impl.NewArena()
	want := []int{0}
	for n := 1; n <= 8; n++ {
		list := make([]int, n)
		for i := range list {
			list[i] = 10*n + i
		}
		b, at, code := impl.AllocCells(a, list)
		wantCode(t, "AllocCells", code, impl.OK)
		if at != len(want) {
			t.Error("the first new cell is", at, "want", len(want))
		}
		want = append(want, list...)
		wantCells(t, "AllocCells", b, want...)
		a = b
	}
	b, _, code := impl.AllocCells(arenaOf(0), []int{impl.MaxWord, -impl.MaxWord})
	wantCode(t, "AllocCells of the greatest numbers", code, impl.OK)
	wantCells(t, "AllocCells of the greatest numbers", b, 0, impl.MaxWord, -impl.MaxWord)
}

func TestAllocSizes(t *testing.T) {
	full := impl.Arena{Cells: make([]int, impl.MaxCells)}
	lists := [][]int{nil, {}, make([]int, 9), make([]int, impl.MaxList),
		{impl.MaxWord + 1, 2, 3, 4, 5, 6, 7, 8, 9}}
	for i, list := range lists {
		for _, a := range []impl.Arena{arenaOf(0, 5), full} {
			b, at, code := impl.AllocCells(a, list)
			wantCode(t, "AllocCells", code, impl.ErrSize)
			if at != 0 || len(b.Cells) != 0 {
				t.Error("not all is zero:", i)
			}
		}
	}
	b, at, code := impl.AllocCells(full, []int{impl.MaxWord + 1})
	wantCode(t, "a number out of bounds ahead of no room", code, impl.ErrRange)
	if at != 0 || len(b.Cells) != 0 {
		t.Error("not all is zero")
	}
}

func TestAllocListTooLong(t *testing.T) {
	long := make([]int, impl.MaxList+1)
	long[3] = impl.MaxWord + 1
	for _, a := range []impl.Arena{{}, arenaOf(1), arenaOf(0, 5), {Cells: make([]int, impl.MaxCells)}} {
		b, at, code := impl.AllocCells(a, long)
		wantCode(t, "AllocCells", code, impl.ErrLong)
		if at != 0 || len(b.Cells) != 0 {
			t.Error("not all is zero")
		}
	}
}

func TestAllocRoom(t *testing.T) {
	for n := 1; n <= 8; n++ {
		list := slices.Repeat([]int{3}, n)
		fits := impl.Arena{Cells: make([]int, impl.MaxCells-n)}
		b, at, code := impl.AllocCells(fits, list)
		wantCode(t, "AllocCells that fits", code, impl.OK)
		if at != impl.MaxCells-n || len(b.Cells) != impl.MaxCells || !impl.ArenaOK(b) {
			t.Error("AllocCells that fits", n, at, len(b.Cells))
		}
		tight := impl.Arena{Cells: make([]int, impl.MaxCells-n+1)}
		tight.Cells[9] = 4
		b, at, code = impl.AllocCells(tight, list)
		wantCode(t, "AllocCells without room", code, impl.ErrFull)
		if at != 0 {
			t.Error("AllocCells without room tells cell", at)
		}
		wantCells(t, "AllocCells without room", b, tight.Cells...)
	}
}

func TestSameArena(t *testing.T) {
	alike := [][2]impl.Arena{
		{arenaOf(0), impl.NewArena()},
		{arenaOf(0, 5, 6), arenaOf(0, 5, 6)},
		{{}, {Cells: []int{}}},
		{arenaOf(1, math.MaxInt), arenaOf(1, math.MaxInt)},
		{{Cells: make([]int, impl.MaxList+1)}, {Cells: make([]int, impl.MaxList+1)}},
	}
	for i, p := range alike {
		if !impl.SameArena(p[0], p[1]) || !impl.SameArena(p[1], p[0]) {
			t.Error("alike, yet not the same:", i)
		}
	}
	unlike := [][2]impl.Arena{
		{arenaOf(0), {}},
		{arenaOf(0), arenaOf(1)},
		{arenaOf(0, 5), arenaOf(0, 5, 0)},
		{arenaOf(0, 5, 6), arenaOf(0, 6, 5)},
		{arenaOf(0, 5, 6), arenaOf(0, 5, 7)},
	}
	for i, p := range unlike {
		if impl.SameArena(p[0], p[1]) || impl.SameArena(p[1], p[0]) {
			t.Error("not alike, yet the same:", i)
		}
	}
}

// What many calls one after the other come to is held against a plain list.
func TestArenaAgainstList(t *testing.T) {
	r := rand.New(rand.NewSource(1))
	a, list := impl.NewArena(), []int{0}
	for i := 0; i < 3000; i++ {
		at, v := r.Intn(len(list)+2), r.Intn(7)-3
		right := at > 0 && at < len(list)
		switch r.Intn(4) {
		case 0:
			b, first, code := impl.AllocCells(a, []int{v, at})
			if code == impl.OK {
				a, list = b, append(list, v, at)
			}
			if (code == impl.OK) != (first != 0) || code == impl.OK && first != len(list)-2 {
				t.Fatal("AllocCells", first, code)
			}
		case 1:
			if b, code := impl.StoreCell(a, at, v); code == impl.OK && right {
				a, list[at] = b, v
			} else if code != impl.ErrRange || right {
				t.Fatal("StoreCell", at, code)
			}
		case 2:
			b, ok, code := impl.CasCell(a, at, v, v+1)
			if right != (code == impl.OK) || ok != (right && list[at] == v) {
				t.Fatal("CasCell", at, ok, code)
			}
			if right {
				a = b
			}
			if ok {
				list[at] = v + 1
			}
		default:
			b, was, code := impl.AddCell(a, at, v)
			if right != (code == impl.OK) || right && was != list[at] {
				t.Fatal("AddCell", at, was, code)
			}
			if right {
				a, list[at] = b, list[at]+v
			}
		}
		if !slices.Equal(a.Cells, list) || !impl.ArenaOK(a) {
			t.Fatal("step", i, a.Cells, list)
		}
	}
}
