package vec

import (
	"math/big"
	"slices"
	"testing"

	"netlab/api"
	"netlab/bit"
)

// check compares an operator with a model of it, which receives valid vectors.
func check(t *testing.T, o binary, model func(a, b api.Vec) api.Vec) {
	t.Helper()
	for a, b := range pairs {
		if got, want := o.f(a, b), model(read(a), read(b)); !equal(got, want) {
			t.Errorf("%s(%s, %s) = %s, want %s", o.name, show(a), show(b), show(got), show(want))
		}
	}
}

func checkUnary(t *testing.T, o unary, model func(a api.Vec) api.Vec) {
	t.Helper()
	for _, a := range every() {
		if got, want := o.f(a), model(read(a)); !equal(got, want) {
			t.Errorf("%s(%s) = %s, want %s", o.name, show(a), show(got), show(want))
		}
	}
}

// P4.3

func TestBitwise(t *testing.T) {
	for _, x := range []struct {
		operator binary
		onBits   func(a, b api.Bit) api.Bit
	}{
		{binary{"And", And}, bit.And}, {binary{"Or", Or}, bit.Or}, {binary{"Xor", Xor}, bit.Xor}, {binary{"Xnor", Xnor}, bit.Eq},
	} {
		check(t, x.operator, func(a, b api.Vec) api.Vec {
			a, b = balanced(a, b)
			for i := range a.Bits {
				a.Bits[i] = x.onBits(a.Bits[i], b.Bits[i])
			}
			return a
		})
	}
}

func TestNot(t *testing.T) {
	checkUnary(t, unary{"Not", Not}, func(a api.Vec) api.Vec {
		b := api.Vec{Signed: a.Signed}
		for _, x := range a.Bits {
			b.Bits = append(b.Bits, bit.Not(x))
		}
		return b
	})
}

func TestReductions(t *testing.T) {
	for _, x := range []struct {
		operator unary
		onBits   func(a, b api.Bit) api.Bit
		negated  bool
	}{
		{unary{"RedAnd", RedAnd}, bit.And, false}, {unary{"RedOr", RedOr}, bit.Or, false}, {unary{"RedXor", RedXor}, bit.Xor, false},
		{unary{"RedNand", RedNand}, bit.And, true}, {unary{"RedNor", RedNor}, bit.Or, true}, {unary{"RedXnor", RedXnor}, bit.Xor, true},
	} {
		checkUnary(t, x.operator, func(a api.Vec) api.Vec {
			b := bit.Buf(a.Bits[len(a.Bits)-1])
			for i := len(a.Bits) - 2; i >= 0; i-- {
				b = x.onBits(a.Bits[i], b)
			}
			if x.negated {
				b = bit.Not(b)
			}
			return one(b)
		})
	}
}

// meant is the truth of a valid vector.
func meant(a api.Vec) api.Bit {
	switch {
	case slices.Contains(a.Bits, api.B1):
		return api.B1
	case allKnown(a):
		return api.B0
	}
	return api.BX
}

func TestLogical(t *testing.T) {
	checkUnary(t, unary{"LNot", LNot}, func(a api.Vec) api.Vec { return one(bit.Not(meant(a))) })
	check(t, binary{"LAnd", LAnd}, func(a, b api.Vec) api.Vec { return one(bit.And(meant(a), meant(b))) })
	check(t, binary{"LOr", LOr}, func(a, b api.Vec) api.Vec { return one(bit.Or(meant(a), meant(b))) })
}

// P4.4

// calculated is the model of an operator that balances its operands. The operation
// returns nil where the result is unknown.
func calculated(operation func(m, n *big.Int) *big.Int) func(a, b api.Vec) api.Vec {
	return func(a, b api.Vec) api.Vec {
		a, b = balanced(a, b)
		var result *big.Int
		if allKnown(a, b) {
			result = operation(value(a), value(b))
		}
		if result == nil {
			return exes(len(a.Bits), a.Signed)
		}
		return vectorOf(result, len(a.Bits), a.Signed)
	}
}

// divided is a division, or nil for the divisor 0.
func divided(operation func(m, n *big.Int) *big.Int) func(m, n *big.Int) *big.Int {
	return func(m, n *big.Int) *big.Int {
		if n.Sign() == 0 {
			return nil
		}
		return operation(m, n)
	}
}

func TestArithmetic(t *testing.T) {
	for _, x := range []struct {
		operator  binary
		operation func(m, n *big.Int) *big.Int
	}{
		{binary{"Add", Add}, func(m, n *big.Int) *big.Int { return new(big.Int).Add(m, n) }},
		{binary{"Sub", Sub}, func(m, n *big.Int) *big.Int { return new(big.Int).Sub(m, n) }},
		{binary{"Mul", Mul}, func(m, n *big.Int) *big.Int { return new(big.Int).Mul(m, n) }},
		{binary{"Div", Div}, divided(func(m, n *big.Int) *big.Int { return new(big.Int).Quo(m, n) })},
		{binary{"Mod", Mod}, divided(func(m, n *big.Int) *big.Int { return new(big.Int).Rem(m, n) })},
	} {
		check(t, x.operator, calculated(x.operation))
	}
}

func TestNeg(t *testing.T) {
	checkUnary(t, unary{"Neg", Neg}, func(a api.Vec) api.Vec {
		if !allKnown(a) {
			return exes(len(a.Bits), a.Signed)
		}
		return vectorOf(new(big.Int).Neg(value(a)), len(a.Bits), a.Signed)
	})
}

// power is the model of Pow.
func power(a, b api.Vec) api.Vec {
	width := len(a.Bits)
	if !allKnown(a, b) {
		return exes(width, a.Signed)
	}
	base, exponent := value(a), value(b)
	if exponent.Sign() >= 0 {
		base = new(big.Int).Mod(base, pow2(width))
		return vectorOf(new(big.Int).Exp(base, exponent, pow2(width)), width, a.Signed)
	}
	switch {
	case base.Sign() == 0:
		return exes(width, a.Signed)
	case base.IsInt64() && base.Int64() == 1:
		return vectorOf(big.NewInt(1), width, a.Signed)
	case base.IsInt64() && base.Int64() == -1:
		return vectorOf(big.NewInt(1-2*int64(exponent.Bit(0))), width, a.Signed)
	}
	return vectorOf(new(big.Int), width, a.Signed)
}

func TestPow(t *testing.T) {
	checkPower := func(a, b api.Vec) {
		t.Helper()
		if got, want := Pow(a, b), power(read(a), read(b)); !equal(got, want) {
			t.Errorf("Pow(%s, %s) = %s, want %s", show(a), show(b), show(got), show(want))
		}
	}
	bases := slices.Concat(small(3), knownOnly(all(4)), wide(), invalid())
	exponents := slices.Concat(small(3), knownOnly(all(4)), chosen(64)[3:12], invalid())
	for _, width := range []int{64, 65, 128} {
		for _, n := range []int64{1, 2, -1, -2} {
			bases = append(bases, vectorOf(big.NewInt(n), width, true), vectorOf(big.NewInt(n), width, false))
			exponents = append(exponents, vectorOf(big.NewInt(n), width, true))
		}
	}
	for _, a := range bases {
		for _, b := range exponents {
			checkPower(a, b)
		}
	}
	for _, a := range slices.Concat(chosen(128)[3:7], chosen(64)[9:]) {
		for _, b := range slices.Concat(chosen(128), chosen(65)) {
			checkPower(a, b)
		}
	}
}

func TestPowCases(t *testing.T) {
	for _, x := range []struct{ a, b, want string }{
		{"s0010", "s11", "s0000"},  // 2 ** -1
		{"s0010", "11", "s1000"},   // 2 ** 3
		{"0010", "s111", "0000"},   // the exponent is signed though the base is not
		{"s0000", "s11", "sxxxx"},  // 0 ** -1
		{"0000", "s11", "xxxx"},    // 0 ** -1
		{"s0000", "s00", "s0001"},  // 0 ** 0
		{"s0001", "s10", "s0001"},  // 1 ** -2
		{"0001", "s11", "0001"},    // 1 ** -1
		{"s1111", "s11", "s1111"},  // -1 ** -1
		{"s1111", "s10", "s0001"},  // -1 ** -2
		{"1111", "s11", "0000"},    // 15 ** -1
		{"1111", "s10", "0000"},    // 15 ** -2
		{"s1111", "0011", "s1111"}, // -1 ** 3
		{"s1110", "s011", "s1000"}, // -2 ** 3
		{"s1101", "010", "s1001"},  // -3 ** 2
		{"s1", "s1", "s1"},         // -1 ** -1
		{"1", "s1", "1"},           // 1 ** -1
		{"0011", "101", "0011"},    // 3 ** 5
		{"01", "00000011", "01"},   // operands are not balanced
		{"00000011", "10", "00001001"},
		{"s0010", "s1x", "sxxxx"}, {"s001z", "s00", "sxxxx"}, {"0000", "z", "xxxx"}, {"s0001", "x", "sxxxx"},
	} {
		if got := show(Pow(of(x.a), of(x.b))); got != x.want {
			t.Errorf("Pow(%s, %s) = %s, want %s", x.a, x.b, got, x.want)
		}
	}
}

type example struct {
	name string
	f    func(a, b api.Vec) api.Vec
	a, b string
	want string
}

func checkExamples(t *testing.T, l []example) {
	t.Helper()
	for _, x := range l {
		if got := show(x.f(of(x.a), of(x.b))); got != x.want {
			t.Errorf("%s(%s, %s) = %s, want %s", x.name, x.a, x.b, got, x.want)
		}
	}
}

func TestArithmeticCases(t *testing.T) {
	checkExamples(t, []example{
		{"Add", Add, "1100", "0101", "0001"},
		{"Add", Add, "1x00", "0001", "xxxx"},
		{"Add", Add, "1100", "z", "xxxx"},
		{"Add", Add, "s1101", "s00000101", "s00000010"},
		{"Add", Add, "s1101", "00000101", "00010010"},
		{"Add", Add, "s1", "s0000", "s1111"},
		{"Sub", Sub, "0011", "0101", "1110"},
		{"Sub", Sub, "s0x", "s0000", "sxxxx"},
		{"Mul", Mul, "s11", "s0101", "s1011"},
		{"Mul", Mul, "0111", "0111", "0001"},
		{"Mul", Mul, "0000", "000x", "xxxx"},
		{"Div", Div, "s1101", "s0010", "s1111"},
		{"Div", Div, "s1101", "0010", "0110"},
		{"Div", Div, "s1000", "s1111", "s1000"},
		{"Div", Div, "1", "0", "x"},
		{"Div", Div, "s101", "s0000", "sxxxx"},
		{"Div", Div, "s101", "0000", "xxxx"},
		{"Div", Div, "0000", "0000", "xxxx"},
		{"Mod", Mod, "s1101", "s0010", "s1111"},
		{"Mod", Mod, "s0011", "s1110", "s0001"},
		{"Mod", Mod, "s1101", "0010", "0001"},
		{"Mod", Mod, "1101", "0101", "0011"},
		{"Mod", Mod, "0101", "0000", "xxxx"},
		{"Mod", Mod, "s0101", "s0", "sxxxx"},
	})
}

// P4.5

func TestEquality(t *testing.T) {
	equals := func(a, b api.Vec) api.Bit {
		a, b = balanced(a, b)
		result := api.B1
		for i := range a.Bits {
			result = bit.And(result, bit.Eq(a.Bits[i], b.Bits[i]))
		}
		return result
	}
	check(t, binary{"Eq", Eq}, func(a, b api.Vec) api.Vec { return one(equals(a, b)) })
	check(t, binary{"Ne", Ne}, func(a, b api.Vec) api.Vec { return one(bit.Not(equals(a, b))) })
}

func TestOrder(t *testing.T) {
	for _, x := range []struct {
		operator binary
		holds    func(order int) bool
	}{
		{binary{"Lt", Lt}, func(order int) bool { return order == -1 }},
		{binary{"Le", Le}, func(order int) bool { return order != 1 }},
		{binary{"Gt", Gt}, func(order int) bool { return order == 1 }},
		{binary{"Ge", Ge}, func(order int) bool { return order != -1 }},
	} {
		check(t, x.operator, func(a, b api.Vec) api.Vec {
			a, b = balanced(a, b)
			if !allKnown(a, b) {
				return one(api.BX)
			}
			return truth(x.holds(value(a).Cmp(value(b))))
		})
	}
}

// alike is the model of a comparison of the four values that passes over the pairs
// with one of the given bits.
func alike(passed ...api.Bit) func(a, b api.Vec) api.Vec {
	return func(a, b api.Vec) api.Vec {
		a, b = balanced(a, b)
		for i := range a.Bits {
			x, y := a.Bits[i], b.Bits[i]
			if x != y && !slices.Contains(passed, x) && !slices.Contains(passed, y) {
				return one(api.B0)
			}
		}
		return one(api.B1)
	}
}

func TestCaseComparison(t *testing.T) {
	check(t, binary{"CaseEq", CaseEq}, alike())
	check(t, binary{"CaseNe", CaseNe}, func(a, b api.Vec) api.Vec { return one(bit.Not(alike()(a, b).Bits[0])) })
	check(t, cases()[2], alike(api.BZ))
	check(t, cases()[3], alike(api.BX, api.BZ))
}

func TestComparisonCases(t *testing.T) {
	matchZ, matchX := cases()[2].f, cases()[3].f
	checkExamples(t, []example{
		{"Eq", Eq, "10x0", "0000", "0"}, {"Eq", Eq, "00x0", "0000", "x"}, {"Eq", Eq, "x", "x", "x"}, {"Eq", Eq, "z", "z", "x"},
		{"Eq", Eq, "s1", "s1111", "1"}, {"Eq", Eq, "s1", "1111", "0"}, {"Eq", Eq, "sx1", "s0000", "0"},
		{"Ne", Ne, "10x0", "0000", "1"}, {"Ne", Ne, "00z0", "0000", "x"}, {"Ne", Ne, "01", "1", "0"},
		{"Lt", Lt, "s11", "s001", "1"}, {"Lt", Lt, "s11", "001", "0"}, {"Lt", Lt, "0x", "11", "x"}, {"Lt", Lt, "11", "z0", "x"},
		{"Le", Le, "s100", "s100", "1"}, {"Le", Le, "100", "011", "0"}, {"Le", Le, "s100", "s011", "1"},
		{"Gt", Gt, "1", "1", "0"}, {"Gt", Gt, "10", "s1", "1"}, {"Gt", Gt, "s10", "s1", "0"},
		{"Ge", Ge, "1", "1", "1"}, {"Ge", Ge, "s1", "s0", "0"}, {"Ge", Ge, "1", "x", "x"},
		{"CaseEq", CaseEq, "1x00", "1x00", "1"}, {"CaseEq", CaseEq, "1x00", "1z00", "0"}, {"CaseEq", CaseEq, "sz", "szzz", "1"},
		{"CaseEq", CaseEq, "z", "zzz", "0"}, {"CaseEq", CaseEq, "s1", "1", "1"}, {"CaseEq", CaseEq, "x", "0", "0"},
		{"CaseNe", CaseNe, "1x00", "1x00", "0"}, {"CaseNe", CaseNe, "x", "z", "1"},
		{"MatchZ", matchZ, "1z0", "110", "1"}, {"MatchZ", matchZ, "110", "1z0", "1"}, {"MatchZ", matchZ, "1x0", "110", "0"},
		{"MatchZ", matchZ, "1x0", "1x0", "1"}, {"MatchZ", matchZ, "z", "x", "1"}, {"MatchZ", matchZ, "z", "10", "0"}, {"MatchZ", matchZ, "sz", "s10", "1"},
		{"MatchX", matchX, "1x0", "110", "1"}, {"MatchX", matchX, "110", "1x0", "1"}, {"MatchX", matchX, "1x0", "0x0", "0"}, {"MatchX", matchX, "xz", "01", "1"},
		{"MatchX", matchX, "x", "10", "0"}, {"MatchX", matchX, "sx", "s10", "1"},
	})
}

// P4.6

// shifted is the model of a shift: the bit i of the result is the bit i + direction
// * n of the first operand.
func shifted(direction int64, arithmetic bool) func(a, b api.Vec) api.Vec {
	return func(a, b api.Vec) api.Vec {
		width := len(a.Bits)
		if !allKnown(b) {
			return exes(width, a.Signed)
		}
		b.Signed = false
		distance := new(big.Int).Mul(value(b), big.NewInt(direction))
		fill := api.B0
		if arithmetic && a.Signed {
			fill = a.Bits[width-1]
		}
		c := api.Vec{Signed: a.Signed}
		for i := range width {
			x := fill
			k := new(big.Int).Add(big.NewInt(int64(i)), distance)
			if k.Sign() >= 0 && k.Cmp(big.NewInt(int64(width))) < 0 {
				x = a.Bits[k.Int64()]
			}
			c.Bits = append(c.Bits, x)
		}
		return c
	}
}

func TestShifts(t *testing.T) {
	distances := wide()
	for _, width := range []int{4, 8, 63, 64, 65, 128} {
		for n := range int64(131) {
			distances = append(distances, vectorOf(big.NewInt(n), width, n%2 == 0))
		}
	}
	for _, x := range []struct {
		operator binary
		model    func(a, b api.Vec) api.Vec
	}{
		{binary{"Shl", Shl}, shifted(-1, false)}, {binary{"Shr", Shr}, shifted(1, false)},
		{binary{"AShl", AShl}, shifted(-1, false)}, {binary{"AShr", AShr}, shifted(1, true)},
	} {
		check(t, x.operator, x.model)
		for _, a := range slices.Concat(all(1), chosen(5), chosen(64), chosen(128)) {
			for _, b := range distances {
				if got, want := x.operator.f(a, b), x.model(a, b); !equal(got, want) {
					t.Errorf("%s(%s, %s) = %s, want %s", x.operator.name, show(a), show(b), show(got), show(want))
				}
			}
		}
	}
}

func TestShiftCases(t *testing.T) {
	checkExamples(t, []example{
		{"AShr", AShr, "s1000", "1", "s1100"}, {"AShr", AShr, "1000", "1", "0100"}, {"AShr", AShr, "s0100", "1", "s0010"},
		{"AShr", AShr, "sx100", "10", "sxxx1"}, {"AShr", AShr, "sz100", "s11", "szzzz"}, {"AShr", AShr, "s1000", "1111", "s1111"},
		{"AShr", AShr, "s1000", "0x", "sxxxx"},
		{"Shr", Shr, "s1000", "1", "s0100"}, {"Shr", Shr, "zx10", "1", "0zx1"}, {"Shr", Shr, "1111", "100", "0000"},
		{"Shr", Shr, "1111", "s1", "0111"}, {"Shr", Shr, "s1111", "z", "sxxxx"}, {"Shr", Shr, "10", "00000001", "01"},
		{"Shl", Shl, "1011", "1", "0110"}, {"Shl", Shl, "s1zx1", "s1", "szx10"}, {"Shl", Shl, "1111", "s11", "1000"},
		{"Shl", Shl, "1111", "100", "0000"}, {"Shl", Shl, "0000", "x", "xxxx"}, {"Shl", Shl, "1", "0", "1"},
		{"AShl", AShl, "s1011", "1", "s0110"}, {"AShl", AShl, "s1011", "x0", "sxxxx"},
	})
}

// P4.7

// selected is the model of Cond.
func selected(sel, a, b api.Vec) api.Vec {
	a, b = balanced(a, b)
	switch meant(sel) {
	case api.B1:
		return a
	case api.B0:
		return b
	}
	for i := range a.Bits {
		a.Bits[i] = bit.Mux(api.BX, a.Bits[i], b.Bits[i])
	}
	return a
}

// selectors are vectors of every truth.
func selectors() []api.Vec {
	return slices.Concat(small(2), []api.Vec{of("s0x1z"), of("0000"), of("00z0"), of("s1000")}, chosen(128)[:9], invalid())
}

func TestCond(t *testing.T) {
	for _, sel := range selectors() {
		check(t, binary{"Cond of " + show(sel), func(a, b api.Vec) api.Vec { return Cond(sel, a, b) }}, func(a, b api.Vec) api.Vec {
			return selected(read(sel), a, b)
		})
	}
}

func TestCondCases(t *testing.T) {
	for _, x := range []struct{ sel, a, b, want string }{
		{"x", "1010", "1001", "10xx"}, {"z", "1010", "1001", "10xx"}, {"1", "1z0x", "0000", "1z0x"}, {"0", "1111", "z0x1", "z0x1"},
		{"x", "xz01", "xz01", "xx01"}, {"0x1", "s10", "s0", "s10"}, {"0x0", "s10", "s0", "sx0"}, {"1", "s10", "s0000", "s1110"},
		{"1", "s10", "0000", "0010"}, {"0", "0000", "s10", "0010"}, {"0", "s0", "s10", "s10"}, {"x", "s1", "s1111", "s1111"}, {"x", "s1", "1111", "xxx1"},
		{"s1", "0", "1", "0"}, {"1", "0", "000", "000"},
	} {
		if got := show(Cond(of(x.sel), of(x.a), of(x.b))); got != x.want {
			t.Errorf("Cond(%s, %s, %s) = %s, want %s", x.sel, x.a, x.b, got, x.want)
		}
	}
}

// The examples of the chapter, as far as no test above has them.

func TestExamples(t *testing.T) {
	checkExamples(t, []example{
		{"And", And, "1x00", "0110", "0x00"},
		{"Add", Add, "1100", "0101", "0001"},
		{"Add", Add, "1x00", "0001", "xxxx"},
		{"Div", Div, "s1101", "s0010", "s1111"},
		{"AShr", AShr, "s1000", "1", "s1100"},
	})
	if got := show(RedAnd(of("1x0"))); got != "0" {
		t.Errorf("RedAnd(1x0) = %s", got)
	}
	if got := show(RedOr(of("z"))); got != "x" {
		t.Errorf("RedOr(z) = %s", got)
	}
	if got := show(Neg(of("s1000"))); got != "s1000" {
		t.Errorf("Neg(s1000) = %s", got)
	}
	if got := show(LNot(of("0x1"))); got != "0" {
		t.Errorf("LNot(0x1) = %s", got)
	}
}
