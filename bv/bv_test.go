package bv

import (
	"math"
	"math/big"
	"math/rand"
	"slices"
	"strconv"
	"strings"
	"testing"

	"netlab/api"
)

// The expected results are those of package math/big on the values that the
// chapter's terms give to vectors, or of Go's own integers.

type unary struct {
	name string
	f    func(a []bool) []bool
}

type binary struct {
	name string
	f    func(a, b []bool) []bool
}

type shift struct {
	name string
	f    func(a []bool, n int) []bool
}

type division struct {
	name string
	f    func(a, b []bool) (q, r []bool, e api.Errno)
}

func binaries() []binary {
	return []binary{{"Add", Add}, {"Sub", Sub}, {"Mul", Mul}, {"Pow", Pow}}
}

func shifts() []shift { return []shift{{"Shl", Shl}, {"Shr", Shr}, {"Sar", Sar}} }

func divisions() []division { return []division{{"DivMod", DivMod}, {"SDivMod", SDivMod}} }

// bits writes a vector with its last bit first.
func bits(a []bool) string {
	var s strings.Builder
	s.WriteString(strconv.Itoa(len(a)) + "'b")
	for i := len(a) - 1; i >= 0; i-- {
		if a[i] {
			s.WriteByte('1')
		} else {
			s.WriteByte('0')
		}
	}
	return s.String()
}

func pow2(n int) *big.Int { return new(big.Int).Lsh(big.NewInt(1), uint(n)) }

func unsigned(a []bool) *big.Int {
	n := new(big.Int)
	for i, x := range a {
		if x {
			n.Add(n, pow2(i))
		}
	}
	return n
}

func signed(a []bool) *big.Int {
	n := unsigned(a)
	if len(a) > 0 && a[len(a)-1] {
		n.Sub(n, pow2(len(a)))
	}
	return n
}

// vector is the vector of an integer.
func vector(n *big.Int, width int) []bool {
	rest := new(big.Int).Mod(n, pow2(width))
	a := make([]bool, width)
	for i := range a {
		a[i] = rest.Bit(i) == 1
	}
	return a
}

func number(n int64, width int) []bool { return vector(big.NewInt(n), width) }

// all are the vectors of a width.
func all(width int) [][]bool {
	var l [][]bool
	for n := range int64(1) << width {
		l = append(l, number(n, width))
	}
	return l
}

// small are all vectors of at most a width.
func small(width int) [][]bool {
	var l [][]bool
	for w := range width + 1 {
		l = append(l, all(w)...)
	}
	return l
}

// chosen are vectors of a width: those at the bounds, and some without a pattern.
func chosen(width, others int) [][]bool {
	l := [][]bool{
		number(0, width), number(1, width), number(-1, width), number(-2, width), number(3, width),
		vector(pow2(max(width-1, 0)), width),
		vector(new(big.Int).Sub(pow2(max(width-1, 0)), big.NewInt(1)), width),
	}
	source := rand.New(rand.NewSource(int64(width)))
	for k := range others {
		a := make([]bool, width)
		for i := range width >> (k % 3) {
			a[i] = source.Intn(2) == 1
		}
		l = append(l, a)
	}
	return l
}

// wide are vectors whose widths lie at the bounds of machine words, at MaxWidth, and above.
func wide() [][]bool {
	var l [][]bool
	for _, width := range []int{1, 63, 64, 65, 127, api.MaxWidth, api.MaxWidth + 1, 200} {
		l = append(l, chosen(width, 3)...)
	}
	return l
}

func every() [][]bool { return append(small(6), wide()...) }

// pairs are pairs of vectors of equal and of unequal widths.
func pairs(yield func(a, b []bool) bool) {
	for _, l := range [][][]bool{small(4), append(wide(), small(2)...)} {
		for _, a := range l {
			for _, b := range l {
				if !yield(a, b) {
					return
				}
			}
		}
	}
}

// bases are pairs for powers: fewer, because a power takes longer.
func bases(yield func(a, b []bool) bool) {
	l := small(2)
	for _, width := range []int{3, 63, 64, 65, api.MaxWidth, 150} {
		l = append(l, chosen(width, 2)[1:]...)
	}
	for _, a := range l {
		for _, b := range l {
			if !yield(a, b) {
				return
			}
		}
	}
	for _, a := range small(4) {
		for _, b := range small(4) {
			if !yield(a, b) {
				return
			}
		}
	}
}

// P3.1

func TestFromInt(t *testing.T) {
	numbers := []int64{math.MinInt64, math.MinInt64 + 1, math.MinInt32, -1 << 40, -3, -2, 2, 3, 1 << 31, 1 << 32, 0x5555555555555555, math.MaxInt64 - 1, math.MaxInt64}
	for n := int64(-130); n <= 130; n++ {
		numbers = append(numbers, n)
	}
	for _, n := range numbers {
		for width := range api.MaxWidth + 1 {
			got, e := FromInt(n, width)
			if want := number(n, width); !slices.Equal(got, want) || e != api.OK {
				t.Errorf("FromInt(%d, %d) = %s, %d, want %s", n, width, bits(got), e, bits(want))
			}
		}
	}
}

func TestFromIntWidths(t *testing.T) {
	for _, width := range []int{-1, -2, -64, math.MinInt, api.MaxWidth + 1, api.MaxWidth + 2, 1 << 40, math.MaxInt} {
		for _, n := range []int64{0, 1, -1, math.MinInt64} {
			if got, e := FromInt(n, width); len(got) != 0 || e != api.ErrArg {
				t.Errorf("FromInt(%d, %d) = %d bits, error %d", n, width, len(got), e)
			}
		}
	}
}

// lengthened are all extensions of a vector by up to 70 bits of either kind, and
// those of them whose last bit is inverted.
func lengthened(a []bool) [][]bool {
	var l [][]bool
	for _, fill := range []bool{false, true} {
		for n := range 71 {
			b := slices.Clone(a)
			for range n {
				b = append(b, fill)
			}
			l = append(l, b)
			if c := slices.Clone(b); len(c) > 0 {
				c[len(c)-1] = !c[len(c)-1]
				l = append(l, c)
			}
		}
	}
	return l
}

func TestUintAndInt(t *testing.T) {
	for _, x := range every() {
		for _, a := range lengthened(x) {
			u, s := unsigned(a), signed(a)
			n, ok := Uint(a)
			if ok != u.IsUint64() || ok && n != u.Uint64() || !ok && n != 0 {
				t.Errorf("Uint(%s) = %d, %t", bits(a), n, ok)
			}
			m, ok := Int(a)
			if ok != s.IsInt64() || ok && m != s.Int64() || !ok && m != 0 {
				t.Errorf("Int(%s) = %d, %t", bits(a), m, ok)
			}
		}
	}
}

func TestUintAndIntCases(t *testing.T) {
	for _, x := range []struct {
		a      []bool
		u      uint64
		uFits  bool
		s      int64
		sFits  bool
		reason string
	}{
		{nil, 0, true, 0, true, "no vector"},
		{[]bool{}, 0, true, 0, true, "the empty vector"},
		{[]bool{true}, 1, true, -1, true, "one bit"},
		{number(-1, 63), 1<<63 - 1, true, -1, true, "63 ones"},
		{number(-1, 64), math.MaxUint64, true, -1, true, "64 ones"},
		{number(-1, 65), 0, false, -1, true, "65 ones"},
		{vector(pow2(63), 64), 1 << 63, true, math.MinInt64, true, "the least int64"},
		{vector(pow2(63), 65), 1 << 63, true, 0, false, "2^63"},
		{vector(pow2(64), 65), 0, false, 0, false, "-2^64"},
		{vector(pow2(64), 66), 0, false, 0, false, "2^64"},
		{number(math.MinInt64, 128), 0, false, math.MinInt64, true, "the least int64, extended"},
		{number(math.MaxInt64, 128), math.MaxInt64, true, math.MaxInt64, true, "the greatest int64, extended"},
	} {
		if n, ok := Uint(x.a); n != x.u || ok != x.uFits {
			t.Errorf("Uint of %s = %d, %t", x.reason, n, ok)
		}
		if n, ok := Int(x.a); n != x.s || ok != x.sFits {
			t.Errorf("Int of %s = %d, %t", x.reason, n, ok)
		}
	}
}

// P3.2

func TestSumDifferenceProduct(t *testing.T) {
	for a, b := range pairs {
		x, y := unsigned(a), unsigned(b)
		for _, c := range []struct {
			name string
			got  []bool
			want *big.Int
		}{
			{"Add", Add(a, b), new(big.Int).Add(x, y)},
			{"Sub", Sub(a, b), new(big.Int).Sub(x, y)},
			{"Mul", Mul(a, b), new(big.Int).Mul(x, y)},
		} {
			if want := vector(c.want, len(a)); !slices.Equal(c.got, want) {
				t.Errorf("%s(%s, %s) = %s, want %s", c.name, bits(a), bits(b), bits(c.got), bits(want))
			}
		}
	}
}

func TestNegation(t *testing.T) {
	for _, a := range every() {
		if got, want := Neg(a), vector(new(big.Int).Neg(unsigned(a)), len(a)); !slices.Equal(got, want) {
			t.Errorf("Neg(%s) = %s, want %s", bits(a), bits(got), bits(want))
		}
	}
}

func TestPower(t *testing.T) {
	for a, b := range bases {
		want := vector(new(big.Int).Exp(unsigned(a), unsigned(b), pow2(len(a))), len(a))
		if got := Pow(a, b); !slices.Equal(got, want) {
			t.Errorf("Pow(%s, %s) = %s, want %s", bits(a), bits(b), bits(got), bits(want))
		}
	}
}

func TestPowerZero(t *testing.T) {
	for _, a := range every() {
		for _, width := range []int{0, 1, 4, 64, 65, 200} {
			if got := Pow(a, number(0, width)); !slices.Equal(got, number(1, len(a))) {
				t.Errorf("Pow(%s, 0) = %s with an exponent of %d bits", bits(a), bits(got), width)
			}
		}
	}
}

func TestLongExponent(t *testing.T) {
	exponent := vector(new(big.Int).Sub(pow2(5000), big.NewInt(5)), 5000)
	top := vector(pow2(4999), 5000)
	for _, width := range []int{1, 2, 3, 16, 65} {
		for _, a := range chosen(width, 2) {
			for _, b := range [][]bool{exponent, top} {
				want := vector(new(big.Int).Exp(unsigned(a), unsigned(b), pow2(width)), width)
				if got := Pow(a, b); !slices.Equal(got, want) {
					t.Errorf("Pow(%s, an exponent of 5000 bits) = %s, want %s", bits(a), bits(got), bits(want))
				}
			}
		}
	}
}

// P3.3

func TestDivision(t *testing.T) {
	for a, b := range pairs {
		if unsigned(b).Sign() == 0 {
			continue
		}
		q, r, e := DivMod(a, b)
		x, y := new(big.Int).DivMod(unsigned(a), unsigned(b), new(big.Int))
		if !slices.Equal(q, vector(x, len(a))) || !slices.Equal(r, vector(y, len(a))) || e != api.OK {
			t.Errorf("DivMod(%s, %s) = %s, %s, %d, want %d, %d", bits(a), bits(b), bits(q), bits(r), e, x, y)
		}
		q, r, e = SDivMod(a, b)
		x, y = new(big.Int).QuoRem(signed(a), signed(b), new(big.Int))
		if !slices.Equal(q, vector(x, len(a))) || !slices.Equal(r, vector(y, len(a))) || e != api.OK {
			t.Errorf("SDivMod(%s, %s) = %s, %s, %d, want %d, %d", bits(a), bits(b), bits(q), bits(r), e, x, y)
		}
	}
}

func TestDivisionByZero(t *testing.T) {
	for _, d := range divisions() {
		for _, a := range every() {
			for _, b := range [][]bool{nil, {}, number(0, 1), number(0, len(a)), number(0, 64), number(0, 200)} {
				if q, r, e := d.f(a, b); len(q) != 0 || len(r) != 0 || e != api.ErrZero {
					t.Errorf("%s(%s, %s) = %s, %s, %d", d.name, bits(a), bits(b), bits(q), bits(r), e)
				}
			}
		}
	}
}

func TestLeastByMinusOne(t *testing.T) {
	for _, width := range []int{1, 2, 4, 63, 64, 65, api.MaxWidth, 200} {
		least := vector(pow2(width-1), width)
		for _, divisor := range []int{1, 4, width, 200} {
			q, r, e := SDivMod(least, number(-1, divisor))
			if !slices.Equal(q, least) || !slices.Equal(r, number(0, width)) || e != api.OK {
				t.Errorf("%s / -1 of %d bits = %s, %s, %d", bits(least), divisor, bits(q), bits(r), e)
			}
		}
	}
}

// P3.4

// distances are numbers to shift by, among them the width and those beside it.
func distances(width int) []int {
	l := []int{math.MinInt, math.MinInt + 1, -200, -64, -1, math.MaxInt - 1, math.MaxInt, 1 << 40, width - 1, width, width + 1, width + 64}
	for n := range 9 {
		l = append(l, n)
	}
	return append(l, 63, 64, 65, 127, 128, 129, 200)
}

func TestShifts(t *testing.T) {
	for _, a := range every() {
		for _, n := range distances(len(a)) {
			// Beyond the width, the values no longer depend on n.
			by := uint(min(max(n, 0), len(a)))
			want := []*big.Int{new(big.Int).Lsh(unsigned(a), by), new(big.Int).Rsh(unsigned(a), by), new(big.Int).Rsh(signed(a), by)}
			for i, s := range shifts() {
				if got := s.f(a, n); !slices.Equal(got, vector(want[i], len(a))) {
					t.Errorf("%s(%s, %d) = %s, want %s", s.name, bits(a), n, bits(got), bits(vector(want[i], len(a))))
				}
			}
		}
	}
}

// P3.5

func TestComparisons(t *testing.T) {
	for a, b := range pairs {
		if got, want := Cmp(a, b), unsigned(a).Cmp(unsigned(b)); got != want {
			t.Errorf("Cmp(%s, %s) = %d, want %d", bits(a), bits(b), got, want)
		}
		if got, want := SCmp(a, b), signed(a).Cmp(signed(b)); got != want {
			t.Errorf("SCmp(%s, %s) = %d, want %d", bits(a), bits(b), got, want)
		}
	}
}

// P3.6

func TestRing(t *testing.T) {
	for _, width := range []int{0, 1, 2, 3} {
		l := all(width)
		checkRing(t, l)
	}
	for _, width := range []int{63, 64, 65, api.MaxWidth, 200} {
		checkRing(t, chosen(width, 2))
	}
}

func checkRing(t *testing.T, l [][]bool) {
	t.Helper()
	for _, a := range l {
		for _, b := range l {
			if !slices.Equal(Add(a, b), Add(b, a)) || !slices.Equal(Mul(a, b), Mul(b, a)) {
				t.Errorf("Add or Mul of %s, %s is not commutative", bits(a), bits(b))
			}
			if !slices.Equal(Sub(a, b), Add(a, Neg(b))) {
				t.Errorf("Sub of %s, %s is not Add of Neg", bits(a), bits(b))
			}
			for _, c := range l {
				if !slices.Equal(Add(Add(a, b), c), Add(a, Add(b, c))) || !slices.Equal(Mul(Mul(a, b), c), Mul(a, Mul(b, c))) {
					t.Errorf("Add or Mul of %s, %s, %s is not associative", bits(a), bits(b), bits(c))
				}
				if !slices.Equal(Mul(a, Add(b, c)), Add(Mul(a, b), Mul(a, c))) {
					t.Errorf("Mul of %s does not distribute over Add of %s, %s", bits(a), bits(b), bits(c))
				}
			}
		}
	}
}

// P3.7

func TestDivisionLaws(t *testing.T) {
	for a, b := range pairs {
		if unsigned(b).Sign() == 0 {
			continue
		}
		q, r, _ := DivMod(a, b)
		if !slices.Equal(Add(Mul(q, b), r), a) {
			t.Errorf("%s is not the divisor %s times %s plus %s", bits(a), bits(b), bits(q), bits(r))
		}
		if unsigned(r).Cmp(unsigned(b)) >= 0 {
			t.Errorf("the remainder %s is not less than the divisor %s", bits(r), bits(b))
		}
		q, r, _ = SDivMod(a, b)
		product := new(big.Int).Mul(signed(q), signed(b))
		if !slices.Equal(vector(product.Add(product, signed(r)), len(a)), a) {
			t.Errorf("signed, %s is not the divisor %s times %s plus %s", bits(a), bits(b), bits(q), bits(r))
		}
		if s := signed(r); s.CmpAbs(signed(b)) >= 0 || s.Sign() != 0 && s.Sign() != signed(a).Sign() {
			t.Errorf("the signed remainder of %s by %s is %s", bits(a), bits(b), bits(r))
		}
	}
}

// P3.8

// checkWord compares the results for two values of a width with those of Go's
// integers of 64 bits, whose lower bits they are.
func checkWord(t *testing.T, x, y uint64, width int) {
	t.Helper()
	mask := uint64(math.MaxUint64) >> (64 - width)
	u, v := x&mask, y&mask
	s, z := int64(u<<(64-width))>>(64-width), int64(v<<(64-width))>>(64-width)
	a, _ := FromInt(int64(u), width)
	b, _ := FromInt(int64(v), width)
	check := func(name string, got []bool, want uint64) {
		t.Helper()
		n, ok := Uint(got)
		if len(got) != width || n != want&mask || !ok {
			t.Errorf("%s of %d, %d with %d bits: got %s, want %d", name, u, v, width, bits(got), want&mask)
		}
	}
	if n, ok := Int(a); n != s || !ok {
		t.Errorf("Int of %d with %d bits = %d, %t, want %d", u, width, n, ok, s)
	}
	check("FromInt", a, u)
	check("Add", Add(a, b), u+v)
	check("Sub", Sub(a, b), u-v)
	check("Neg", Neg(a), -u)
	check("Mul", Mul(a, b), u*v)
	n := int(v % 70)
	check("Shl", Shl(a, n), u<<n)
	check("Shr", Shr(a, n), u>>n)
	check("Sar", Sar(a, n), uint64(s>>n))
	if v != 0 {
		q, r, _ := DivMod(a, b)
		check("DivMod, quotient", q, u/v)
		check("DivMod, remainder", r, u%v)
		q, r, _ = SDivMod(a, b)
		check("SDivMod, quotient", q, uint64(s/z))
		check("SDivMod, remainder", r, uint64(s%z))
	}
	if got := Cmp(a, b); (got < 0) != (u < v) || (got > 0) != (u > v) {
		t.Errorf("Cmp of %d, %d = %d", u, v, got)
	}
	if got := SCmp(a, b); (got < 0) != (s < z) || (got > 0) != (s > z) {
		t.Errorf("SCmp of %d, %d = %d", s, z, got)
	}
}

func TestBytes(t *testing.T) {
	for x := range uint64(256) {
		for y := range uint64(256) {
			checkWord(t, x, y, 8)
		}
	}
}

func TestWords(t *testing.T) {
	for width := 1; width <= 64; width++ {
		least := uint64(1) << (width - 1)
		values := []uint64{0, 1, 2, 5, least - 1, least, least + 1, math.MaxUint64, math.MaxUint64 - 4}
		source := rand.New(rand.NewSource(int64(width)))
		for i := range 6 {
			values = append(values, source.Uint64()>>(8*i))
		}
		for _, x := range values {
			for _, y := range values {
				checkWord(t, x, y, width)
			}
		}
	}
}

func TestPowersOfWords(t *testing.T) {
	for _, width := range []int{1, 2, 5, 8, 31, 32, 63, 64} {
		mask := uint64(math.MaxUint64) >> (64 - width)
		for _, base := range []uint64{0, 1, 2, 3, 6, 10, 255, math.MaxUint64, 0x123456789abcdef1} {
			want := uint64(1)
			a := vector(new(big.Int).SetUint64(base), width)
			for exponent := range int64(70) {
				n, ok := Uint(Pow(a, number(exponent, 7)))
				if n != want&mask || !ok {
					t.Errorf("%d to the power of %d with %d bits = %d, want %d", base, exponent, width, n, want&mask)
				}
				want *= base
			}
		}
	}
}

// P3.9

func TestShiftsAreProducts(t *testing.T) {
	for _, a := range every() {
		for n := range len(a) + 3 {
			factor := vector(pow2(n), n+1)
			if !slices.Equal(Shl(a, n), Mul(a, factor)) {
				t.Errorf("Shl(%s, %d) is not the product with 2^%d", bits(a), n, n)
			}
			if q, _, _ := DivMod(a, factor); !slices.Equal(Shr(a, n), q) {
				t.Errorf("Shr(%s, %d) is not the quotient by 2^%d", bits(a), n, n)
			}
		}
	}
}

func TestShiftsAddUp(t *testing.T) {
	for _, s := range shifts() {
		for _, a := range every() {
			for _, m := range []int{0, 1, 2, 5, 31, 63, 64, 65, 128, 1000} {
				for _, n := range []int{0, 1, 3, 63, 64, 65, math.MaxInt - 1000} {
					if !slices.Equal(s.f(s.f(a, m), n), s.f(a, m+n)) {
						t.Errorf("%s(%s) by %d and by %d is not that by their sum", s.name, bits(a), m, n)
					}
				}
			}
		}
	}
}

func TestLongShifts(t *testing.T) {
	for _, a := range every() {
		for _, n := range []int{len(a), len(a) + 1, 2*len(a) + 64, math.MaxInt - 1, math.MaxInt} {
			last := make([]bool, len(a))
			for i := range last {
				last[i] = a[len(a)-1]
			}
			if !slices.Equal(Shl(a, n), make([]bool, len(a))) || !slices.Equal(Shr(a, n), make([]bool, len(a))) || !slices.Equal(Sar(a, n), last) {
				t.Errorf("%s is shifted by %d to %s, %s and %s", bits(a), n, bits(Shl(a, n)), bits(Shr(a, n)), bits(Sar(a, n)))
			}
		}
	}
}

// P3.10

func TestPowersAdd(t *testing.T) {
	exponents := small(3)
	l := small(3)
	for _, width := range []int{64, 65, api.MaxWidth} {
		exponents = append(exponents, chosen(width, 1)[6:]...)
		l = append(l, chosen(width, 1)[4:]...)
	}
	for _, a := range l {
		for _, b := range exponents {
			for _, c := range exponents {
				sum := vector(new(big.Int).Add(unsigned(b), unsigned(c)), max(len(b), len(c))+1)
				if !slices.Equal(Pow(a, sum), Mul(Pow(a, b), Pow(a, c))) {
					t.Errorf("the power of %s for %s plus %s is not the product of the powers", bits(a), bits(b), bits(c))
				}
			}
		}
	}
}

// P3.11, and R3: nothing beyond the length of an argument is read or written.

// within is a vector that lies within a longer slice whose other elements are rest.
func within(a []bool, rest bool) (part, whole []bool) {
	whole = slices.Repeat([]bool{rest}, len(a)+10)
	copy(whole[5:], a)
	return whole[5 : 5+len(a)], whole
}

// results are the results of all functions for two vectors and a number.
func results(a, b []bool, n int) [][]bool {
	l := [][]bool{Neg(a), Shl(a, n), Shr(a, n), Sar(a, n)}
	for _, o := range binaries() {
		l = append(l, o.f(a, b))
	}
	for _, d := range divisions() {
		q, r, _ := d.f(a, b)
		l = append(l, q, r)
	}
	l = append(l, number(int64(Cmp(a, b)), 2), number(int64(SCmp(a, b)), 2))
	u, uFits := Uint(a)
	s, sFits := Int(a)
	return append(l, number(int64(u), 64), number(s, 64), []bool{uFits, sFits})
}

func invert(a []bool) {
	for i := range a {
		a[i] = !a[i]
	}
}

func same(l, m [][]bool) bool { return slices.EqualFunc(l, m, slices.Equal[[]bool]) }

func copies(l [][]bool) [][]bool {
	var c [][]bool
	for _, a := range l {
		c = append(c, slices.Clone(a))
	}
	return c
}

// few are vectors for tests that call all functions.
func few() [][]bool {
	l := small(3)
	for _, width := range []int{63, 64, 65, api.MaxWidth} {
		l = append(l, chosen(width, 1)[4:]...)
	}
	return l
}

func TestIndependence(t *testing.T) {
	for _, x := range few() {
		for _, y := range few() {
			for _, n := range []int{-1, 0, 1, len(x)} {
				want := copies(results(slices.Clone(x), slices.Clone(y), n))
				for _, rest := range []bool{false, true} {
					checkIndependent(t, x, y, n, rest, want)
				}
			}
		}
	}
}

func checkIndependent(t *testing.T, x, y []bool, n int, rest bool, want [][]bool) {
	t.Helper()
	a, wholeA := within(x, rest)
	b, wholeB := within(y, rest)
	beforeA, beforeB := slices.Clone(wholeA), slices.Clone(wholeB)
	got := results(a, b, n)
	if !same(got, want) {
		t.Errorf("the results for %s, %s depend on the elements beyond them", bits(x), bits(y))
	}
	if !slices.Equal(wholeA, beforeA) || !slices.Equal(wholeB, beforeB) {
		t.Errorf("a function changed its argument %s or %s", bits(x), bits(y))
	}
	for i, r := range got {
		invert(r[:cap(r)])
		invert(want[i])
		if !slices.Equal(wholeA, beforeA) || !slices.Equal(wholeB, beforeB) {
			t.Errorf("result %d for %s, %s shares memory with them", i, bits(x), bits(y))
		}
		if !same(got, want) {
			t.Errorf("result %d for %s, %s shares memory with another one", i, bits(x), bits(y))
		}
	}
	for _, w := range want {
		invert(w)
	}
}

func TestOverlappingArguments(t *testing.T) {
	for _, width := range []int{1, 4, 64, 65} {
		for _, x := range chosen(width+3, 3) {
			for _, from := range []int{0, 1, 3} {
				a, b := x[:width], x[from:from+width]
				want := copies(results(slices.Clone(a), slices.Clone(b), 1))
				if got := results(a, b, 1); !same(got, want) {
					t.Errorf("the results for %s, %s change when they share memory", bits(a), bits(b))
				}
			}
		}
	}
}

// R1: the empty vector and nil are equivalent.

func TestEmpty(t *testing.T) {
	if got, e := FromInt(-1, 0); len(got) != 0 || e != api.OK {
		t.Errorf("FromInt(-1, 0) = %s, %d", bits(got), e)
	}
	for _, a := range [][]bool{nil, {}} {
		for _, b := range append(every(), nil) {
			for _, o := range binaries() {
				if got := o.f(a, b); len(got) != 0 {
					t.Errorf("%s(%s, %s) = %s", o.name, bits(a), bits(b), bits(got))
				}
				if got, want := o.f(b, a), map[string][]bool{"Add": b, "Sub": b, "Mul": number(0, len(b)), "Pow": number(1, len(b))}[o.name]; !slices.Equal(got, want) {
					t.Errorf("%s(%s, %s) = %s", o.name, bits(b), bits(a), bits(got))
				}
			}
			if got, want := Cmp(a, b), -unsigned(b).Sign(); got != want {
				t.Errorf("Cmp(%s, %s) = %d", bits(a), bits(b), got)
			}
			if got, want := SCmp(a, b), -signed(b).Sign(); got != want {
				t.Errorf("SCmp(%s, %s) = %d", bits(a), bits(b), got)
			}
		}
		for _, o := range []unary{{"Neg", Neg}, {"Shl", func(a []bool) []bool { return Shl(a, 1) }}, {"Shr", func(a []bool) []bool { return Shr(a, 1) }}, {"Sar", func(a []bool) []bool { return Sar(a, 0) }}} {
			if got := o.f(a); len(got) != 0 {
				t.Errorf("%s of the empty vector = %s", o.name, bits(got))
			}
		}
		for _, d := range divisions() {
			if q, r, e := d.f(a, number(-3, 5)); len(q) != 0 || len(r) != 0 || e != api.OK {
				t.Errorf("%s(%s, 5'b11101) = %s, %s, %d", d.name, bits(a), bits(q), bits(r), e)
			}
		}
	}
}

// P1: equal arguments yield equal results, whatever was called before.

func TestResultsRepeat(t *testing.T) {
	record := func() string {
		var s strings.Builder
		for _, a := range few() {
			for _, b := range few() {
				for _, r := range results(a, b, 3) {
					s.WriteString(bits(r))
				}
				v, e := FromInt(int64(len(a))-3, len(b))
				s.WriteString(bits(v) + strconv.Itoa(int(e)))
			}
		}
		return s.String()
	}
	if record() != record() {
		t.Error("a second round of calls gives other results")
	}
}

// The examples of the chapter.

func TestExamples(t *testing.T) {
	of := func(n int64) []bool {
		a, _ := FromInt(n, 4)
		return a
	}
	for _, x := range []struct {
		name string
		got  []bool
		want int64
	}{
		{"13 plus 5", Add(of(13), of(5)), 2},
		{"3 minus 5", Sub(of(3), of(5)), 14},
		{"7 times 7", Mul(of(7), of(7)), 1},
		{"3 to the power of 5", Pow(of(3), of(5)), 3},
		{"Sar of 12 by 1", Sar(of(12), 1), 14},
	} {
		if !slices.Equal(x.got, number(x.want, 4)) {
			t.Errorf("%s is %s", x.name, bits(x.got))
		}
	}
	if q, r, e := DivMod(of(13), of(5)); !slices.Equal(q, of(2)) || !slices.Equal(r, of(3)) || e != api.OK {
		t.Errorf("13 divided by 5 is %s, %s, %d", bits(q), bits(r), e)
	}
	if q, r, e := SDivMod(of(13), of(2)); !slices.Equal(q, of(15)) || !slices.Equal(r, of(15)) || e != api.OK {
		t.Errorf("-3 divided by 2 is %s, %s, %d", bits(q), bits(r), e)
	}
	if q, r, e := SDivMod(of(-8), of(-1)); !slices.Equal(q, of(8)) || !slices.Equal(r, of(0)) || e != api.OK {
		t.Errorf("-8 divided by -1 is %s, %s, %d", bits(q), bits(r), e)
	}
}
