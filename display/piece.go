package display

import (
	"iter"
	"strconv"
	"strings"
	"unicode"

	"netlab/api"
)

// maxDigits bounds the digits of a minimum width.
const maxDigits = 3

// piece is a part of a format string: a conversion, or bytes that are copied, as which
// two percent signs count.
type piece struct {
	// letter is that of a conversion, in lower case with h for x, and otherwise 0.
	letter byte
	// minimum is the minimum width, and 0 if none is given.
	minimum    int
	hasMinimum bool
	text       string
}

func (p piece) usesArgument() bool { return p.letter != 0 && p.letter != 't' }

// pieces yields the pieces of a format string, and ErrForm at the end if a percent sign
// begins no conversion.
func pieces(f string) iter.Seq2[piece, api.Errno] {
	return func(yield func(piece, api.Errno) bool) {
		for rest := f; rest != ""; {
			p, length := first(rest)
			if length == 0 {
				yield(piece{}, api.ErrForm)
				return
			}
			if !yield(p, api.OK) {
				return
			}
			rest = rest[length:]
		}
	}
}

// first returns the first piece of a text and the number of its bytes, which is 0 if a
// percent sign there begins no conversion.
func first(f string) (piece, int) {
	if copied, _, _ := strings.Cut(f, "%"); copied != "" {
		return piece{text: copied}, len(copied)
	}
	if strings.HasPrefix(f, "%%") {
		return piece{text: "%"}, len("%%")
	}
	rest := strings.TrimLeft(f[1:], "0123456789")
	digits := f[1 : len(f)-len(rest)]
	if rest == "" || len(digits) > maxDigits {
		return piece{}, 0
	}
	letter := kind(rest[0])
	if letter == 0 {
		return piece{}, 0
	}
	minimum, _ := strconv.Atoi(digits)
	return piece{letter: letter, minimum: minimum, hasMinimum: digits != ""}, 1 + len(digits) + 1
}

// kind returns the letter of a conversion in lower case, with h for x, and 0 for any
// other byte.
func kind(c byte) byte {
	letter := byte(unicode.ToLower(rune(c)))
	switch letter {
	case 'b', 'o', 'd', 'h', 'c', 's', 't':
		return letter
	case 'x':
		return 'h'
	}
	return 0
}
