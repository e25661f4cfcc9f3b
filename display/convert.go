package display

import (
	"slices"
	"strconv"
	"strings"

	"netlab/api"
	"netlab/literal"
)

const (
	// timeWidth is the minimum width of a time for which none is given.
	timeWidth = 20
	byteSize  = 8
)

// convert returns what a conversion yields for its argument.
func (p piece) convert(v api.Vec) string {
	switch p.letter {
	case 'd':
		width := p.minimum
		if !p.hasMinimum {
			width = greatestLength(v)
		}
		return atLeast(width, " ", digits(v, 'd'))
	case 'c':
		s := bytesOf(v)
		return s[len(s)-1:]
	case 's':
		return atLeast(p.minimum, " ", strings.TrimLeft(bytesOf(v), "\x00"))
	}
	return p.filled(digits(v, p.letter))
}

// convertTime returns what the conversion t yields.
func (p piece) convertTime(time int64) string {
	width := p.minimum
	if !p.hasMinimum {
		width = timeWidth
	}
	return atLeast(width, " ", strconv.FormatInt(time, 10))
}

// filled replaces the leading zeros by as many as the minimum width asks for, if one
// is given.
func (p piece) filled(text string) string {
	if !p.hasMinimum {
		return text
	}
	last := len(text) - 1
	return atLeast(p.minimum, "0", strings.TrimLeft(text[:last], "0")+text[last:])
}

func atLeast(width int, fill, text string) string {
	return strings.Repeat(fill, max(0, width-len(text))) + text
}

// digits returns the digits of a valid vector.
func digits(v api.Vec, base byte) string {
	text, _ := literal.Digits(v, base)
	return text
}

// greatestLength is that of the decimal digits of all known vectors with the width and
// the sign of v. None has more than the least signed one, 10..0, or than the greatest
// unsigned one, 11..1.
func greatestLength(v api.Vec) int {
	low := api.B1
	if v.Signed {
		low = api.B0
	}
	bits := slices.Repeat([]api.Bit{low}, len(v.Bits))
	bits[len(bits)-1] = api.B1
	return len(digits(api.Vec{Bits: bits, Signed: v.Signed}, 'd'))
}

// bytesOf returns the bits of a vector as bytes, the most significant one first. Bits
// that are not 1 or do not exist count as 0.
func bytesOf(v api.Vec) string {
	var text []byte
	for group := range slices.Chunk(v.Bits, byteSize) {
		c := byte(0)
		for i, b := range group {
			if b == api.B1 {
				c |= 1 << i
			}
		}
		text = append(text, c)
	}
	slices.Reverse(text)
	return string(text)
}
