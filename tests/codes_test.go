package tests

import (
	"math"
	"strings"
	"testing"

	"loop.example/g00624/impl"
)

var codeTable = []struct {
	number, constant int
	word             string
}{
	{0, impl.OK, "ok"},
	{1, impl.ErrBad, "bad"},
	{2, impl.ErrLong, "long"},
	{3, impl.ErrForm, "form"},
	{4, impl.ErrRange, "range"},
	{5, impl.ErrNone, "none"},
	{6, impl.ErrMany, "many"},
	{7, impl.ErrFull, "full"},
	{8, impl.ErrSize, "size"},
	{9, impl.ErrBusy, "busy"},
	{10, impl.ErrIdle, "idle"},
	{11, impl.ErrParked, "parked"},
	{12, impl.ErrTimeout, "timeout"},
	{13, impl.ErrCancelled, "cancelled"},
	{14, impl.ErrEmpty, "empty"},
	{15, impl.ErrReady, "ready"},
	{16, impl.ErrOrder, "order"},
	{17, impl.ErrPair, "pair"},
	{18, impl.ErrOpen, "open"},
	{19, impl.ErrStuck, "stuck"},
}

func TestCodeTable(t *testing.T) {
	for _, row := range codeTable {
		if row.constant != row.number {
			t.Errorf("the constant of %q is %d, want %d", row.word, row.constant, row.number)
		}
		if w := impl.CodeWord(row.number); w != row.word {
			t.Errorf("CodeWord(%d) = %q, want %q", row.number, w, row.word)
		}
		if code := impl.CodeOf(row.word); code != row.number {
			t.Errorf("CodeOf(%q) = %d, want %d", row.word, code, row.number)
		}
	}
}

func TestCodeWordOfOtherNumbers(t *testing.T) {
	for _, code := range []int{-1, 20, 21, 256, math.MinInt, math.MaxInt} {
		if w := impl.CodeWord(code); w != "" {
			t.Errorf("CodeWord(%d) = %q, want none", code, w)
		}
	}
}

func TestCodeOfOtherTexts(t *testing.T) {
	others := []string{"", " ", "OK", "Ok", "ok ", " ok", "o", "okk", "ok\x00", "badd", "error", "0", "\xff",
		strings.Repeat("o", impl.MaxText+1), "ok" + strings.Repeat(" ", impl.MaxText)}
	for _, word := range others {
		if code := impl.CodeOf(word); code != -1 {
			t.Errorf("CodeOf of %d bytes %.20q = %d, want -1", len(word), word, code)
		}
	}
}

func TestLimits(t *testing.T) {
	if impl.MaxText != 65536 || impl.MaxList != 4096 || impl.MaxName != 40 {
		t.Error("limits of texts, lists and names:", impl.MaxText, impl.MaxList, impl.MaxName)
	}
	if impl.MaxCells != 400 || impl.MaxWord != 1000000000 {
		t.Error("limits of the arena:", impl.MaxCells, impl.MaxWord)
	}
}

func TestNameLengths(t *testing.T) {
	for _, n := range []int{1, 2, 39, 40} {
		if !impl.NameOK(strings.Repeat("n", n)) {
			t.Error("a name of", n, "bytes is refused")
		}
	}
	for _, n := range []int{0, 41, 42, impl.MaxText, impl.MaxText + 1} {
		if impl.NameOK(strings.Repeat("n", n)) {
			t.Error("a name of", n, "bytes is taken")
		}
	}
	if impl.NameOK(strings.Repeat("é", 21)) || impl.NameOK("é") {
		t.Error("a name is of bytes, and é is none of them")
	}
}

func TestNameBytes(t *testing.T) {
	const letters = "abcdefghijklmnopqrstuvwxyzABCDEFGHIJKLMNOPQRSTUVWXYZ_"
	const digits = "0123456789"
	for b := 0; b < 256; b++ {
		text := string([]byte{byte(b)})
		letter := strings.Contains(letters, text)
		later := letter || strings.Contains(digits, text)
		if impl.NameOK(text) != letter {
			t.Errorf("NameOK(%q) = %v", text, !letter)
		}
		if impl.NameOK("x"+text) != later || impl.NameOK("_y"+text+"z") != later {
			t.Errorf("NameOK with %q behind the first byte is not %v", text, later)
		}
		last := strings.Repeat("q", impl.MaxName-1) + text
		if impl.NameOK(last) != later {
			t.Errorf("NameOK with %q as the last byte is not %v", text, later)
		}
	}
}
