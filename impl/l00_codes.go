package impl

const (
	MaxText = 65536
	MaxList = 4096
	MaxName = 40

	OK           = 0
	ErrBad       = 1
	ErrLong      = 2
	ErrForm      = 3
	ErrRange     = 4
	ErrNone      = 5
	ErrMany      = 6
	ErrFull      = 7
	ErrSize      = 8
	ErrBusy      = 9
	ErrIdle      = 10
	ErrParked    = 11
	ErrTimeout   = 12
	ErrCancelled = 13
	ErrEmpty     = 14
	ErrReady     = 15
	ErrOrder     = 16
	ErrPair      = 17
	ErrOpen      = 18
	ErrStuck     = 19
)

var codeWords = [...]string{
	OK:           "ok",
	ErrBad:       "bad",
	ErrLong:      "long",
	ErrForm:      "form",
	ErrRange:     "range",
	ErrNone:      "none",
	ErrMany:      "many",
	ErrFull:      "full",
	ErrSize:      "size",
	ErrBusy:      "busy",
	ErrIdle:      "idle",
	ErrParked:    "parked",
	ErrTimeout:   "timeout",
	ErrCancelled: "cancelled",
	ErrEmpty:     "empty",
	ErrReady:     "ready",
	ErrOrder:     "order",
	ErrPair:      "pair",
	ErrOpen:      "open",
	ErrStuck:     "stuck",
}

func NameOK(t string) bool {
	if len(t) < 1 || len(t) > MaxName || isDigit(t[0]) {
		return false
	}
	// By index: a range over the text would read runes, and names are bytes.
	for i := 0; i < len(t); i++ {
		if !isLetter(t[i]) && !isDigit(t[i]) {
			return false
		}
	}
	return true
}

func CodeWord(code int) string {
	if !codeOK(code) {
		return ""
	}
	return codeWords[code]
}

func CodeOf(word string) int {
	for code, w := range codeWords {
		if w == word {
			return code
		}
	}
	return -1
}

func codeOK(code int) bool { return code >= 0 && code < len(codeWords) }

func isLetter(b byte) bool {
	return b >= 'a' && b <= 'z' || b >= 'A' && b <= 'Z' || b == '_'
}

func isDigit(b byte) bool { return b >= '0' && b <= '9' }
