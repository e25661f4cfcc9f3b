package vec

import (
	"math"
	"math/big"
	"math/rand"
	"slices"
	"strings"
	"testing"

	"netlab/api"
	"netlab/bit"
)

// The expected results are computed bit by bit with package bit, and with package
// math/big on the values that the chapter's terms give to known vectors.

// of is the vector with the given characters, the most significant bit first; s in
// front makes it signed.
func of(s string) api.Vec {
	digits, signed := strings.CutPrefix(s, "s")
	a := api.Vec{Signed: signed}
	for i := len(digits) - 1; i >= 0; i-- {
		b, ok := bit.Parse(digits[i])
		if !ok {
			panic("no vector: " + s)
		}
		a.Bits = append(a.Bits, b)
	}
	return a
}

// show is the inverse of of. It shows a bit that is none as a question mark.
func show(a api.Vec) string {
	var s strings.Builder
	if a.Signed {
		s.WriteByte('s')
	}
	for i := len(a.Bits) - 1; i >= 0; i-- {
		if a.Bits[i] <= api.BZ {
			s.WriteByte("01xz"[a.Bits[i]])
		} else {
			s.WriteByte('?')
		}
	}
	return s.String()
}

func equal(a, b api.Vec) bool { return a.Signed == b.Signed && slices.Equal(a.Bits, b.Bits) }

// one is the vector of one bit.
func one(b api.Bit) api.Vec { return api.Vec{Bits: []api.Bit{b}} }

func truth(v bool) api.Vec {
	if v {
		return one(api.B1)
	}
	return one(api.B0)
}

func exes(width int, signed bool) api.Vec {
	return api.Vec{Bits: slices.Repeat([]api.Bit{api.BX}, width), Signed: signed}
}

func valid(a api.Vec) bool {
	if len(a.Bits) < 1 || len(a.Bits) > 128 {
		return false
	}
	for _, x := range a.Bits {
		if x > api.BZ {
			return false
		}
	}
	return true
}

// read is the vector as which a counts.
func read(a api.Vec) api.Vec {
	if valid(a) {
		return a
	}
	return one(api.BX)
}

func allKnown(l ...api.Vec) bool {
	for _, a := range l {
		for _, x := range a.Bits {
			if x != api.B0 && x != api.B1 {
				return false
			}
		}
	}
	return true
}

func pow2(n int) *big.Int { return new(big.Int).Lsh(big.NewInt(1), uint(n)) }

// value is the value of a known vector.
func value(a api.Vec) *big.Int {
	n := new(big.Int)
	for i, x := range a.Bits {
		if x == api.B1 {
			n.Add(n, pow2(i))
		}
	}
	if a.Signed && a.Bits[len(a.Bits)-1] == api.B1 {
		n.Sub(n, pow2(len(a.Bits)))
	}
	return n
}

// vectorOf is the vector of an integer.
func vectorOf(n *big.Int, width int, signed bool) api.Vec {
	rest := new(big.Int).Mod(n, pow2(width))
	a := api.Vec{Signed: signed}
	for i := range width {
		a.Bits = append(a.Bits, api.Bit(rest.Bit(i)))
	}
	return a
}

// extend is a vector, extended to a greater width.
func extend(a api.Vec, width int) api.Vec {
	b := api.Vec{Bits: slices.Clone(a.Bits), Signed: a.Signed}
	for len(b.Bits) < width {
		fill := api.B0
		if a.Signed {
			fill = a.Bits[len(a.Bits)-1]
		}
		b.Bits = append(b.Bits, fill)
	}
	return b
}

// balanced are two vectors, balanced.
func balanced(a, b api.Vec) (api.Vec, api.Vec) {
	if !a.Signed || !b.Signed {
		a.Signed, b.Signed = false, false
	}
	width := max(len(a.Bits), len(b.Bits))
	return extend(a, width), extend(b, width)
}

// all are the vectors of a width, unsigned and signed.
func all(width int) []api.Vec {
	var l []api.Vec
	for n := range 1 << (2 * width) {
		var bits []api.Bit
		for i := range width {
			bits = append(bits, api.Bit(n>>(2*i)&3))
		}
		l = append(l, api.Vec{Bits: bits}, api.Vec{Bits: slices.Clone(bits), Signed: true})
	}
	return l
}

// small are all vectors of at most a width.
func small(width int) []api.Vec {
	var l []api.Vec
	for w := 1; w <= width; w++ {
		l = append(l, all(w)...)
	}
	return l
}

// knownOnly are the known ones of some vectors.
func knownOnly(l []api.Vec) []api.Vec {
	return slices.DeleteFunc(slices.Clone(l), func(a api.Vec) bool { return !allKnown(a) })
}

// chosen are vectors of a width: known ones at the bounds and without a pattern,
// and ones with a few and with many unknown bits.
func chosen(width int) []api.Vec {
	top := pow2(width - 1)
	source := rand.New(rand.NewSource(int64(width)))
	l := []api.Vec{
		vectorOf(big.NewInt(0), width, false),
		vectorOf(big.NewInt(3), width, false),
		vectorOf(big.NewInt(-1), width, false),
		vectorOf(top, width, false),
		vectorOf(new(big.Int).Sub(top, big.NewInt(1)), width, false),
		vectorOf(new(big.Int).Rand(source, pow2(width)), width, false),
		vectorOf(new(big.Int).Rand(source, pow2(width)), width, false),
	}
	few := vectorOf(new(big.Int).Rand(source, pow2(width)), width, false)
	few.Bits[width/2], few.Bits[width-1] = api.BX, api.BZ
	many := api.Vec{}
	for range width {
		many.Bits = append(many.Bits, api.Bit(source.Intn(4)))
	}
	l = append(l, few, many)
	for _, a := range slices.Clone(l) {
		l = append(l, api.Vec{Bits: slices.Clone(a.Bits), Signed: true})
	}
	return l
}

// wide are vectors whose widths lie at the bounds of machine words and of MaxWidth.
func wide() []api.Vec {
	var l []api.Vec
	for _, width := range []int{63, 64, 65, 127, 128} {
		l = append(l, chosen(width)...)
	}
	return l
}

// invalid are vectors that Check rejects.
func invalid() []api.Vec {
	long := slices.Repeat([]api.Bit{api.B1}, 129)
	full := slices.Repeat([]api.Bit{api.B0}, 128)
	full[127] = 4
	return []api.Vec{
		{}, {Bits: []api.Bit{}}, {Signed: true}, {Bits: []api.Bit{}, Signed: true},
		{Bits: long}, {Bits: long, Signed: true}, {Bits: slices.Repeat([]api.Bit{api.B0}, 1000)},
		{Bits: slices.Repeat([]api.Bit{7}, 129), Signed: true},
		{Bits: []api.Bit{4}}, {Bits: []api.Bit{4}, Signed: true}, {Bits: []api.Bit{255, api.B1, api.B1}, Signed: true},
		{Bits: []api.Bit{api.B1, api.B0, 128}}, {Bits: full}, {Bits: full, Signed: true},
	}
}

func every() []api.Vec { return slices.Concat(small(4), wide(), invalid()) }

// pairs are pairs of vectors of equal and of unequal widths, and with invalid ones.
func pairs(yield func(a, b api.Vec) bool) {
	for _, l := range [][]api.Vec{small(3), slices.Concat(wide(), small(1), invalid())} {
		for _, a := range l {
			for _, b := range l {
				if !yield(a, b) {
					return
				}
			}
		}
	}
}

type unary struct {
	name string
	f    func(a api.Vec) api.Vec
}

type binary struct {
	name string
	f    func(a, b api.Vec) api.Vec
}

// unaries are the operators with one operand.
func unaries() []unary {
	return []unary{
		{"Not", Not}, {"Neg", Neg}, {"LNot", LNot}, {"RedAnd", RedAnd}, {"RedOr", RedOr}, {"RedXor", RedXor},
		{"RedNand", RedNand}, {"RedNor", RedNor}, {"RedXnor", RedXnor},
	}
}

// binaries are the monotone operators with two operands.
func binaries() []binary {
	return []binary{
		{"And", And}, {"Or", Or}, {"Xor", Xor}, {"Xnor", Xnor}, {"Add", Add}, {"Sub", Sub}, {"Mul", Mul},
		{"Div", Div}, {"Mod", Mod}, {"Pow", Pow}, {"Eq", Eq}, {"Ne", Ne}, {"Lt", Lt}, {"Le", Le}, {"Gt", Gt},
		{"Ge", Ge}, {"LAnd", LAnd}, {"LOr", LOr}, {"Shl", Shl}, {"Shr", Shr}, {"AShl", AShl}, {"AShr", AShr},
	}
}

// cases are the comparisons that distinguish all four values.
func cases() []binary {
	return []binary{
		{"CaseEq", CaseEq}, {"CaseNe", CaseNe},
		{"MatchZ", func(a, b api.Vec) api.Vec { return truth(MatchZ(a, b)) }},
		{"MatchX", func(a, b api.Vec) api.Vec { return truth(MatchX(a, b)) }},
	}
}

// sure is the result of a call that is expected to return no error.
func sure(t *testing.T) func(a api.Vec, e api.Errno) api.Vec {
	return func(a api.Vec, e api.Errno) api.Vec {
		t.Helper()
		if e != api.OK {
			t.Errorf("error %d", e)
		}
		return a
	}
}

// P4.1

func TestCheck(t *testing.T) {
	bits := func(n int, x api.Bit) []api.Bit { return slices.Repeat([]api.Bit{x}, n) }
	for _, x := range []struct {
		name string
		bits []api.Bit
		want api.Errno
	}{
		{"nil", nil, api.ErrShort},
		{"an empty slice", []api.Bit{}, api.ErrShort},
		{"no bits of a longer slice", bits(5, api.B1)[2:2], api.ErrShort},
		{"one bit", bits(1, api.B0), api.OK},
		{"the four values", []api.Bit{api.B0, api.B1, api.BX, api.BZ}, api.OK},
		{"128 bits", bits(128, api.BZ), api.OK},
		{"129 bits", bits(129, api.B0), api.ErrLong},
		{"1000 bits", bits(1000, api.B0), api.ErrLong},
		{"129 bits above BZ", bits(129, 4), api.ErrLong},
		{"one bit above BZ", bits(1, 4), api.ErrArg},
		{"one bit far above BZ", bits(1, 255), api.ErrArg},
		{"a low bit above BZ", []api.Bit{4, api.B0, api.B0}, api.ErrArg},
		{"a high bit above BZ", []api.Bit{api.B0, api.B0, 128}, api.ErrArg},
		{"128 bits above BZ", bits(128, 5), api.ErrArg},
	} {
		for _, signed := range []bool{false, true} {
			if e := Check(api.Vec{Bits: x.bits, Signed: signed}); e != x.want {
				t.Errorf("Check of %s = %d, want %d", x.name, e, x.want)
			}
		}
	}
	for n := range 256 {
		if e := Check(one(api.Bit(n))); (e == api.OK) != (n < 4) {
			t.Errorf("Check of the bit %d = %d", n, e)
		}
	}
}

func TestSame(t *testing.T) {
	l := slices.Concat(small(3), chosen(128), invalid())
	for _, a := range l {
		for _, b := range l {
			if got := Same(a, b); got != equal(a, b) {
				t.Errorf("Same(%s, %s) = %t", show(a), show(b), got)
			}
		}
	}
	x := one(api.BX)
	for _, a := range []api.Vec{{}, {Bits: []api.Bit{4}}, {Bits: []api.Bit{255}}} {
		if Same(a, x) || Same(x, a) {
			t.Errorf("the invalid vector of %d bits is the same as x", len(a.Bits))
		}
	}
	if !Same(api.Vec{}, api.Vec{Bits: []api.Bit{}}) || Same(api.Vec{}, api.Vec{Signed: true}) {
		t.Error("Same tells nil from an empty slice, or not a signed vector from an unsigned one")
	}
	if Same(one(4), one(5)) || !Same(one(4), one(4)) {
		t.Error("Same does not compare bits above BZ")
	}
}

func TestKnown(t *testing.T) {
	for _, a := range every() {
		if got, want := Known(a), allKnown(read(a)); got != want {
			t.Errorf("Known(%s) = %t", show(a), got)
		}
	}
}

func TestLeq(t *testing.T) {
	for x, y := range pairs {
		a, b := read(x), read(y)
		want := a.Signed == b.Signed && len(a.Bits) == len(b.Bits)
		for i := 0; want && i < len(a.Bits); i++ {
			want = bit.Leq(a.Bits[i], b.Bits[i])
		}
		if got := Leq(x, y); got != want {
			t.Errorf("Leq(%s, %s) = %t", show(x), show(y), got)
		}
	}
	for _, x := range []struct {
		a, b string
		want bool
	}{
		{"x", "0", true}, {"0", "x", false}, {"x", "z", false}, {"z", "x", false}, {"z", "z", true}, {"0", "1", false},
		{"xz1", "011", true}, {"xz1", "010", false}, {"x", "s0", false}, {"sx", "s0", true}, {"x", "00", false}, {"00", "0", false},
	} {
		if got := Leq(of(x.a), of(x.b)); got != x.want {
			t.Errorf("Leq(%s, %s) = %t", x.a, x.b, got)
		}
	}
	for _, a := range invalid() {
		if !Leq(a, of("1")) || !Leq(a, of("x")) || !Leq(of("x"), a) || Leq(a, of("s1")) || Leq(a, of("11")) {
			t.Errorf("Leq does not count the invalid vector %s as x", show(a))
		}
	}
}

func numbers() []int64 {
	l := []int64{math.MinInt64, math.MinInt64 + 1, math.MinInt32, -1 << 40, 1 << 31, 1 << 32, 0x5555555555555555, math.MaxInt64 - 1, math.MaxInt64}
	for n := int64(-20); n <= 20; n++ {
		l = append(l, n)
	}
	return l
}

func badWidths() []int {
	return []int{0, -1, -128, math.MinInt, 129, 130, 1 << 40, math.MaxInt}
}

func TestFromInt(t *testing.T) {
	for _, n := range numbers() {
		for _, signed := range []bool{false, true} {
			for width := 1; width <= 128; width++ {
				got, e := FromInt(n, width, signed)
				if want := vectorOf(big.NewInt(n), width, signed); !equal(got, want) || e != api.OK {
					t.Errorf("FromInt(%d, %d, %t) = %s, %d, want %s", n, width, signed, show(got), e, show(want))
				}
			}
			for _, width := range badWidths() {
				if got, e := FromInt(n, width, signed); !equal(got, api.Vec{}) || e != api.ErrWidth {
					t.Errorf("FromInt(%d, %d, %t) = %s, %d", n, width, signed, show(got), e)
				}
			}
		}
	}
}

func TestUnknown(t *testing.T) {
	for _, signed := range []bool{false, true} {
		for width := 1; width <= 128; width++ {
			if got, e := Unknown(width, signed); !equal(got, exes(width, signed)) || e != api.OK {
				t.Errorf("Unknown(%d, %t) = %s, %d", width, signed, show(got), e)
			}
		}
		for _, width := range badWidths() {
			if got, e := Unknown(width, signed); !equal(got, api.Vec{}) || e != api.ErrWidth {
				t.Errorf("Unknown(%d, %t) = %s, %d", width, signed, show(got), e)
			}
		}
	}
}

func TestInt(t *testing.T) {
	l := every()
	for _, n := range numbers() {
		for _, width := range []int{1, 2, 5, 32, 62, 63, 64, 65, 66, 128} {
			l = append(l, vectorOf(big.NewInt(n), width, false), vectorOf(big.NewInt(n), width, true))
		}
	}
	for _, a := range l {
		var want int64
		fits := false
		if b := read(a); allKnown(b) && value(b).IsInt64() {
			want, fits = value(b).Int64(), true
		}
		if got, ok := Int(a); got != want || ok != fits {
			t.Errorf("Int(%s) = %d, %t, want %d, %t", show(a), got, ok, want, fits)
		}
	}
}

func TestIntCases(t *testing.T) {
	for _, x := range []struct {
		a    api.Vec
		want int64
		ok   bool
	}{
		{of("1"), 1, true},
		{of("s1"), -1, true},
		{of("1101"), 13, true},
		{of("s1101"), -3, true},
		{of("1x01"), 0, false},
		{of("z000"), 0, false},
		{vectorOf(pow2(63), 64, false), 0, false},
		{vectorOf(pow2(63), 64, true), math.MinInt64, true},
		{vectorOf(pow2(63), 65, true), 0, false},
		{vectorOf(big.NewInt(math.MaxInt64), 128, false), math.MaxInt64, true},
		{vectorOf(big.NewInt(math.MinInt64), 128, true), math.MinInt64, true},
		{vectorOf(big.NewInt(-1), 128, true), -1, true},
		{vectorOf(big.NewInt(-1), 128, false), 0, false},
		{vectorOf(pow2(64), 128, false), 0, false},
	} {
		if got, ok := Int(x.a); got != x.want || ok != x.ok {
			t.Errorf("Int(%s) = %d, %t", show(x.a), got, ok)
		}
	}
}

func TestTruth(t *testing.T) {
	for _, a := range every() {
		want := api.BX
		switch b := read(a); {
		case slices.Contains(b.Bits, api.B1):
			want = api.B1
		case allKnown(b):
			want = api.B0
		}
		if got := Truth(a); got != want {
			t.Errorf("Truth(%s) = %d", show(a), got)
		}
	}
}

func TestWithSign(t *testing.T) {
	for _, a := range every() {
		for _, signed := range []bool{false, true} {
			if got := WithSign(a, signed); !equal(got, api.Vec{Bits: read(a).Bits, Signed: signed}) {
				t.Errorf("WithSign(%s, %t) = %s", show(a), signed, show(got))
			}
		}
	}
}

// An invalid vector counts as x.

func TestInvalidVectors(t *testing.T) {
	x := one(api.BX)
	for _, bad := range invalid() {
		for _, o := range unaries() {
			if got := o.f(bad); !equal(got, o.f(x)) {
				t.Errorf("%s(%s) = %s", o.name, show(bad), show(got))
			}
		}
		for _, o := range slices.Concat(binaries(), cases()) {
			for _, a := range slices.Concat(small(2), chosen(128)) {
				if got := o.f(a, bad); !equal(got, o.f(a, x)) {
					t.Errorf("%s(%s, %s) = %s", o.name, show(a), show(bad), show(got))
				}
				if got := o.f(bad, a); !equal(got, o.f(x, a)) {
					t.Errorf("%s(%s, %s) = %s", o.name, show(bad), show(a), show(got))
				}
			}
			for _, worse := range invalid() {
				if got := o.f(bad, worse); !equal(got, o.f(x, x)) {
					t.Errorf("%s(%s, %s) = %s", o.name, show(bad), show(worse), show(got))
				}
			}
		}
	}
}
