package impl

import "slices"

const (
	MaxCells = 400
	MaxWord  = 1000000000

	maxAlloc = 8
)

type Arena struct{ Cells []int }

// cellList is never changed in place: an arena that is handed in must stay as
// it was, so every change is made to a copy.
type cellList[T comparable] []T

// grown does not append: that could write behind the end of what was handed in.
func (c cellList[T]) grown(more int) cellList[T] {
	out := make(cellList[T], len(c)+more)
	copy(out, c)
	return out
}

func (c cellList[T]) with(at int, v T) cellList[T] {
	out := c.grown(0)
	out[at] = v
	return out
}

func (c cellList[T]) joined(more cellList[T]) cellList[T] {
	out := c.grown(len(more))
	copy(out[len(c):], more)
	return out
}

func (c cellList[T]) same(other cellList[T]) bool { return slices.Equal(c, other) }

func (a Arena) list() cellList[int] { return a.Cells }

func NewArena() Arena { return Arena{Cells: []int{0}} }

func ArenaOK(a Arena) bool {
	if len(a.Cells) < 1 || len(a.Cells) > MaxCells {
		return false
	}
	return a.Cells[0] == 0 && wordsOK(a.Cells)
}

func LoadCell(a Arena, at int) (int, int) {
	if code := cellFault(a, at); code != OK {
		return 0, code
	}
	return a.Cells[at], OK
}

func StoreCell(a Arena, at, v int) (Arena, int) {
	if code := writeFault(a, at, v); code != OK {
		return Arena{}, code
	}
	return Arena{Cells: a.list().with(at, v)}, OK
}

func CasCell(a Arena, at, old, v int) (Arena, bool, int) {
	if code := writeFault(a, at, v); code != OK {
		return Arena{}, false, code
	}
	if a.Cells[at] != old {
		return copyArena(a), false, OK
	}
	return Arena{Cells: a.list().with(at, v)}, true, OK
}

func AddCell(a Arena, at, n int) (Arena, int, int) {
	if code := writeFault(a, at, n); code != OK {
		return Arena{}, 0, code
	}
	// The sum cannot wrap, since both numbers are in their bounds by now.
	was := a.Cells[at]
	if !wordOK(was + n) {
		return Arena{}, 0, ErrRange
	}
	return Arena{Cells: a.list().with(at, was+n)}, was, OK
}

func AllocCells(a Arena, list []int) (Arena, int, int) {
	if code := allocFault(a, list); code != OK {
		return Arena{}, 0, code
	}
	if len(a.Cells)+len(list) > MaxCells {
		return copyArena(a), 0, ErrFull
	}
	return Arena{Cells: a.list().joined(list)}, len(a.Cells), OK
}

// SameArena does not ask for arenas that are right: the document asks for that
// of machines and models alone.
func SameArena(a, b Arena) bool { return a.list().same(b.Cells) }

func copyArena(a Arena) Arena { return Arena{Cells: a.list().grown(0)} }

func wordOK(v int) bool { return v >= -MaxWord && v <= MaxWord }

func wordsOK(list []int) bool {
	for _, v := range list {
		if !wordOK(v) {
			return false
		}
	}
	return true
}

// cellFault refuses cell 0 too, since it stands for no cell.
func cellFault(a Arena, at int) int {
	switch {
	case !ArenaOK(a):
		return ErrBad
	case at < 1 || at >= len(a.Cells):
		return ErrRange
	}
	return OK
}

func writeFault(a Arena, at, v int) int {
	if code := cellFault(a, at); code != OK {
		return code
	}
	if !wordOK(v) {
		return ErrRange
	}
	return OK
}

// allocFault asks for the general limit first: it goes ahead of every other code.
func allocFault(a Arena, list []int) int {
	switch {
	case len(list) > MaxList:
		return ErrLong
	case !ArenaOK(a):
		return ErrBad
	case len(list) < 1 || len(list) > maxAlloc:
		return ErrSize
	case !wordsOK(list):
		return ErrRange
	}
	return OK
}
