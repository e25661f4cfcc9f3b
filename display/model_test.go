package display

import (
	"fmt"
	"math/big"
	"regexp"
	"slices"
	"strconv"
	"strings"

	"netlab/api"
)

// The expected results are those of a model that works on texts: a vector is written
// with its bits as characters, the most significant bit first, and s in front if it
// is signed. Numbers are those of package math/big.

// of is the vector that is written as s.
func of(s string) api.Vec {
	bits, signed := strings.CutPrefix(s, "s")
	v := api.Vec{Signed: signed}
	for _, c := range slices.Backward([]byte(bits)) {
		v.Bits = append(v.Bits, api.Bit(strings.IndexByte("01xz", c)))
	}
	return v
}

func all(texts []string) []api.Vec {
	var l []api.Vec
	for _, s := range texts {
		l = append(l, of(s))
	}
	return l
}

func known(v string) bool { return !strings.ContainsAny(v, "xz") }

// value is that of a known vector.
func value(v string) *big.Int {
	bits, signed := strings.CutPrefix(v, "s")
	n, _ := new(big.Int).SetString(bits, 2)
	if signed && bits[0] == '1' {
		n.Sub(n, new(big.Int).Lsh(big.NewInt(1), uint(len(bits))))
	}
	return n
}

// digit writes a group of bits in a base whose digits stand for that many.
func digit(bits string) string {
	switch {
	case known(bits):
		n, _ := strconv.ParseInt(bits, 2, 64)
		return strconv.FormatInt(n, 16)
	case strings.Count(bits, "x") == len(bits):
		return "x"
	case strings.Count(bits, "z") == len(bits):
		return "z"
	case strings.Contains(bits, "x"):
		return "X"
	}
	return "Z"
}

// groups writes the bits of a vector in groups of size, the first of which may be smaller.
func groups(v string, size int) []string {
	bits := strings.TrimPrefix(v, "s")
	var l []string
	for len(bits) > size {
		l = append(l, bits[len(bits)-size:])
		bits = bits[:len(bits)-size]
	}
	l = append(l, bits)
	slices.Reverse(l)
	return l
}

func modelDigits(v string, size int) string {
	s := ""
	for _, group := range groups(v, size) {
		s += digit(group)
	}
	return s
}

func modelDecimal(v string) string {
	if known(v) {
		return value(v).String()
	}
	return digit(strings.TrimPrefix(v, "s"))
}

// modelColumn is the length of the column of %d: the greatest one of both bounds.
func modelColumn(v string) int {
	bits, signed := strings.CutPrefix(v, "s")
	bound := new(big.Int).Lsh(big.NewInt(1), uint(len(bits)))
	least, greatest := new(big.Int), new(big.Int).Sub(bound, big.NewInt(1))
	if signed {
		bound.Rsh(bound, 1)
		least, greatest = new(big.Int).Neg(bound), new(big.Int).Sub(bound, big.NewInt(1))
	}
	return max(len(least.String()), len(greatest.String()))
}

func modelBytes(v string) string {
	s := ""
	for _, group := range groups(v, 8) {
		n, _ := strconv.ParseUint(strings.NewReplacer("x", "0", "z", "0").Replace(group), 2, 8)
		s += string([]byte{byte(n)})
	}
	return s
}

func fillUp(s, fill string, width int) string {
	if len(s) >= width {
		return s
	}
	return strings.Repeat(fill, width-len(s)) + s
}

// modelConversion is what a conversion with that minimum width, or none, yields.
func modelConversion(minimum, letter, v string, time int64) string {
	width, err := strconv.Atoi(minimum)
	given := err == nil
	otherwise := func(n int) int {
		if given {
			return width
		}
		return n
	}
	s := ""
	switch strings.ToLower(letter) {
	case "t":
		return fillUp(fmt.Sprint(time), " ", otherwise(20))
	case "d":
		return fillUp(modelDecimal(v), " ", otherwise(modelColumn(v)))
	case "c":
		s = modelBytes(v)
		return s[len(s)-1:]
	case "s":
		s = modelBytes(v)
		for s != "" && s[0] == 0 {
			s = s[1:]
		}
		return fillUp(s, " ", otherwise(0))
	case "b":
		s = modelDigits(v, 1)
	case "o":
		s = modelDigits(v, 3)
	case "h", "x":
		s = modelDigits(v, 4)
	}
	for given && len(s) > 1 && s[0] == '0' {
		s = s[1:]
	}
	return fillUp(s, "0", otherwise(0))
}

type grammar struct{ piece *regexp.Regexp }

func newGrammar() grammar {
	return grammar{piece: regexp.MustCompile(`^(?:(%%)|%([0-9]{0,3})([bodhxcstBODHXCST])|([^%]))`)}
}

// count is what Count returns for a format string that is not too long.
func (g grammar) count(f string) (int, api.Errno) {
	n := 0
	for f != "" {
		parts := g.piece.FindStringSubmatch(f)
		if parts == nil {
			return 0, api.ErrForm
		}
		if letter := strings.ToLower(parts[3]); letter != "" && letter != "t" {
			n++
		}
		f = f[len(parts[0]):]
	}
	return n, api.OK
}

// format is the text for a format string, with as many arguments as it uses.
func (g grammar) format(f string, args []string, time int64) string {
	var s strings.Builder
	for f != "" {
		parts := g.piece.FindStringSubmatch(f)
		switch {
		case parts[1] != "":
			s.WriteString("%")
		case parts[4] != "":
			s.WriteString(parts[4])
		case strings.ToLower(parts[3]) == "t":
			s.WriteString(modelConversion(parts[2], parts[3], "", time))
		default:
			s.WriteString(modelConversion(parts[2], parts[3], args[0], time))
			args = args[1:]
		}
		f = f[len(parts[0]):]
	}
	return s.String()
}
