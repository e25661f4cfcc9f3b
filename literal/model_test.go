package literal

import (
	"fmt"
	"math/big"
	"regexp"
	"slices"
	"strconv"
	"strings"

	"netlab/api"
)

// The expected results are those of a model that works on texts: a vector is written
// with its bits as characters, the most significant bit first, and s in front if it
// is signed. Numbers are those of package math/big.

// result is what Parse returns.
type result struct {
	bits string
	next int
	e    api.Errno
}

func parse(s string, at int) result {
	v, next, e := Parse(s, at)
	return result{show(v), next, e}
}

// of is the vector that is written as s.
func of(s string) api.Vec {
	bits, signed := strings.CutPrefix(s, "s")
	v := api.Vec{Signed: signed}
	for _, c := range slices.Backward([]byte(bits)) {
		v.Bits = append(v.Bits, api.Bit(strings.IndexByte("01xz", c)))
	}
	return v
}

func show(v api.Vec) string {
	s := ""
	for _, b := range v.Bits {
		s = "01xz"[b:b+1] + s
	}
	if v.Signed {
		return "s" + s
	}
	return s
}

func binary(n *big.Int, width int) string {
	modulus := new(big.Int).Lsh(big.NewInt(1), uint(width))
	return fmt.Sprintf("%0*b", width, new(big.Int).Mod(n, modulus))
}

func number(decimal string) *big.Int {
	n, ok := new(big.Int).SetString(decimal, 10)
	if !ok {
		panic("no number: " + decimal)
	}
	return n
}

// grammar holds the forms of the chapter's terms.
type grammar struct{ word, rest, number, tail *regexp.Regexp }

func newGrammar() grammar {
	return grammar{
		word:   regexp.MustCompile(`^[a-zA-Z0-9_]*`),
		rest:   regexp.MustCompile(`^[a-zA-Z0-9_?]*`),
		number: regexp.MustCompile(`^[0-9][0-9_]*$`),
		tail: regexp.MustCompile(`^[sS]?(?:[bB]([01xXzZ?][01xXzZ?_]*)|[oO]([0-7xXzZ?][0-7xXzZ?_]*)|` +
			`[dD]([0-9][0-9_]*|[xXzZ?]_*)|[hH]([0-9a-fA-FxXzZ?][0-9a-fA-FxXzZ?_]*))$`),
	}
}

func (g grammar) parse(s string, at int) result {
	switch {
	case len(s) > 65536:
		return result{e: api.ErrLong}
	case at < 0 || at > len(s):
		return result{e: api.ErrArg}
	case at == len(s):
		return result{e: api.ErrShort}
	}
	head := g.word.FindString(s[at:])
	next := at + len(head)
	based := next < len(s) && s[next] == '\''
	switch {
	case !g.number.MatchString(head) && (head != "" || !based):
		return result{e: api.ErrForm}
	case based:
		return g.parseBased(strings.ReplaceAll(head, "_", ""), s, next+1)
	}
	n := number(strings.ReplaceAll(head, "_", ""))
	if n.Cmp(big.NewInt(2147483647)) > 0 {
		return result{e: api.ErrLong}
	}
	return result{bits: "s" + binary(n, 32), next: next}
}

// parseBased parses a based literal from the offset after the apostrophe.
func (g grammar) parseBased(size, s string, at int) result {
	width := 32
	if size != "" {
		n := number(size)
		if n.Sign() == 0 || n.Cmp(big.NewInt(128)) > 0 {
			return result{e: api.ErrWidth}
		}
		width = int(n.Int64())
	}
	if at == len(s) {
		return result{e: api.ErrShort}
	}
	tail := g.rest.FindString(s[at:])
	parts := g.tail.FindStringSubmatch(tail)
	if parts == nil {
		return result{e: api.ErrForm}
	}
	for i, digits := range parts[1:] {
		parts[i+1] = strings.ReplaceAll(strings.ToLower(digits), "_", "")
	}
	digits := parts[1] + parts[2] + parts[3] + parts[4]
	if len(digits) > 256 {
		return result{e: api.ErrLong}
	}
	bits := ""
	if parts[3] != "" {
		bits = decimalBits(digits, width)
	} else {
		size := 1
		if parts[2] != "" {
			size = 3
		} else if parts[4] != "" {
			size = 4
		}
		bits = groupBits(digits, size, width)
	}
	if tail[0] == 's' || tail[0] == 'S' {
		bits = "s" + bits
	}
	return result{bits: bits, next: at + len(tail)}
}

func decimalBits(digits string, width int) string {
	if bit := unknown(digits[0]); bit != "" {
		return strings.Repeat(bit, width)
	}
	return binary(number(digits), width)
}

func groupBits(digits string, size, width int) string {
	bits := ""
	for i := range len(digits) {
		if bit := unknown(digits[i]); bit != "" {
			bits += strings.Repeat(bit, size)
		} else {
			n, _ := strconv.ParseInt(digits[i:i+1], 16, 64)
			bits += fmt.Sprintf("%0*b", size, n)
		}
	}
	fill := unknown(digits[0])
	if fill == "" {
		fill = "0"
	}
	bits = strings.Repeat(fill, width) + bits
	return bits[len(bits)-width:]
}

// unknown is the bit of a digit that is not known.
func unknown(digit byte) string {
	switch digit {
	case 'x':
		return "x"
	case 'z', '?':
		return "z"
	}
	return ""
}

// digits is the model of Digits.
func digits(bits string, base byte) string {
	unsigned, signed := strings.CutPrefix(bits, "s")
	if base == 'd' {
		return digit10(unsigned, signed)
	}
	size := map[byte]int{'b': 1, 'o': 3, 'h': 4}[base]
	s := ""
	for end := len(unsigned); end > 0; end -= size {
		group := unsigned[max(0, end-size):end]
		digit, ok := unknownDigitOf(group)
		if !ok {
			n, _ := strconv.ParseInt(group, 2, 64)
			digit = strconv.FormatInt(n, 16)
		}
		s = digit + s
	}
	return s
}

func digit10(bits string, signed bool) string {
	if digit, ok := unknownDigitOf(bits); ok {
		return digit
	}
	n, _ := new(big.Int).SetString(bits, 2)
	if signed && bits[0] == '1' {
		n.Sub(n, new(big.Int).Lsh(big.NewInt(1), uint(len(bits))))
	}
	return n.String()
}

func unknownDigitOf(group string) (string, bool) {
	exes, zeds := strings.Count(group, "x"), strings.Count(group, "z")
	switch {
	case exes == len(group):
		return "x", true
	case zeds == len(group):
		return "z", true
	case exes > 0:
		return "X", true
	case zeds > 0:
		return "Z", true
	}
	return "", false
}

// format is the model of Format, as P5.2 and P5.4 describe it.
func format(bits string, base byte) (string, api.Errno) {
	unsigned, signed := strings.CutPrefix(bits, "s")
	text := digits(bits, base)
	if strings.ContainsAny(text, "XZ-") {
		return "", api.ErrNone
	}
	sign := ""
	if signed {
		sign = "s"
	}
	return fmt.Sprintf("%d'%s%c%s", len(unsigned), sign, base, text), api.OK
}
