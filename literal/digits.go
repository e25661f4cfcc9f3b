package literal

import (
	"slices"
	"strconv"
	"strings"

	"netlab/api"
	"netlab/bit"
	"netlab/bv"
	"netlab/vec"
)

// write returns the digits of a valid vector.
func (r radix) write(v api.Vec) string {
	if r.size == 0 {
		return writeDecimal(v)
	}
	var text []byte
	for group := range slices.Chunk(v.Bits, r.size) {
		text = append(text, digit(group))
	}
	slices.Reverse(text)
	return string(text)
}

func digit(group []api.Bit) byte {
	if n, ok := vec.Int(api.Vec{Bits: group}); ok {
		return numerals[n]
	}
	return unknownDigit(group)
}

// unknownDigit writes bits that are not all known. Upper case tells that the digit
// does not say everything of them.
func unknownDigit(group []api.Bit) byte {
	differs := func(b api.Bit) bool { return b != group[0] }
	switch {
	case !slices.ContainsFunc(group, differs):
		return bit.Char(group[0])
	case slices.Contains(group, api.BX):
		return 'X'
	}
	return 'Z'
}

func writeDecimal(v api.Vec) string {
	if !vec.Known(v) {
		return string(unknownDigit(v.Bits))
	}
	n := make([]bool, len(v.Bits))
	for i, b := range v.Bits {
		n[i] = b == api.B1
	}
	if v.Signed && n[len(n)-1] {
		// The absolute value fits into the same width as an unsigned number.
		return "-" + writeNumber(bv.Neg(n))
	}
	return writeNumber(n)
}

// writeNumber writes an unsigned value in decimal, in parts that fit into machine words.
func writeNumber(n []bool) string {
	if word, ok := bv.Uint(n); ok {
		return strconv.FormatUint(word, 10)
	}
	const tenTo18 = 1_000_000_000_000_000_000
	divisor, _ := bv.FromInt(tenTo18, len(n))
	high, low, _ := bv.DivMod(n, divisor)
	tail := writeNumber(low)
	return writeNumber(high) + strings.Repeat("0", 18-len(tail)) + tail
}
