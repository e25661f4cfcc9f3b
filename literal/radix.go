package literal

import (
	"slices"
	"strings"

	"netlab/api"
	"netlab/bit"
	"netlab/bv"
)

const numerals = "0123456789abcdef"

// radix describes the digits of a base, with letters in lower case only.
type radix struct {
	// size is the number of bits for which a digit stands. It is 0 in base 10, where
	// all digits together denote one number.
	size int
	// value returns the value of a known digit, and -1 for any other character.
	value func(c rune) int
}

func radixOf(letter byte) (radix, bool) {
	below := func(n int) func(c rune) int {
		return func(c rune) int { return strings.IndexRune(numerals[:n], c) }
	}
	switch letter {
	case 'b':
		return radix{size: 1, value: below(2)}, true
	case 'o':
		return radix{size: 3, value: below(8)}, true
	case 'd':
		return radix{size: 0, value: below(10)}, true
	case 'h':
		return radix{size: 4, value: below(16)}, true
	}
	return radix{}, false
}

// repeated returns the bit that an x or z digit repeats, and 0 for any other digit.
func repeated(c rune) (api.Bit, bool) {
	b, ok := bit.Parse(byte(c))
	if !ok || bit.Known(b) {
		return api.B0, false
	}
	return b, true
}

// accepts recognizes the digits of a literal, with underscores.
func (r radix) accepts(digits string) bool {
	known, unknown := 0, 0
	for i, c := range digits {
		_, repeats := repeated(c)
		switch {
		case repeats:
			unknown++
		case r.value(c) >= 0:
			known++
		case c != '_' || i == 0:
			return false
		}
	}
	if r.size == 0 && unknown > 0 {
		return known == 0 && unknown == 1
	}
	return digits != ""
}

// read returns the bits that digits, without underscores, denote.
func (r radix) read(digits string, width int) []api.Bit {
	fill, repeats := repeated(rune(digits[0]))
	if r.size == 0 && !repeats {
		return r.readNumber(digits, width)
	}
	bits := slices.Repeat([]api.Bit{fill}, width)
	for _, c := range digits {
		bits = append(r.group(c), bits...)[:width]
	}
	return bits
}

// group returns the bits for which a digit stands: none for x and z in base 10, so
// that only the bits that fill the vector remain.
func (r radix) group(c rune) []api.Bit {
	if b, repeats := repeated(c); repeats {
		return slices.Repeat([]api.Bit{b}, r.size)
	}
	return bitsOf(small(r.value(c)))[:r.size]
}

// readNumber returns the bits of a decimal number modulo 2^width.
func (r radix) readNumber(digits string, width int) []api.Bit {
	n, ten := make([]bool, width), small(10)
	for _, c := range digits {
		n = bv.Add(bv.Mul(n, ten), small(r.value(c)))
	}
	return bitsOf(n)
}

// small returns the vector of a number below 16.
func small(n int) []bool {
	a, _ := bv.FromInt(int64(n), 4)
	return a
}

func bitsOf(n []bool) []api.Bit {
	bits := make([]api.Bit, len(n))
	for i, b := range n {
		bits[i] = bit.FromBool(b)
	}
	return bits
}
