package vec

import (
	"netlab/api"
	"netlab/bit"
	"netlab/bv"
)

// bitwise applies an operation to each pair of bits of the balanced operands.
func bitwise(a, b api.Vec, op func(p, q api.Bit) api.Bit) api.Vec {
	p, q, signed := balance(a, b)
	for i := range p {
		p[i] = op(p[i], q[i])
	}
	return api.Vec{Bits: p, Signed: signed}
}

func And(a, b api.Vec) api.Vec { return bitwise(a, b, bit.And) }

func Or(a, b api.Vec) api.Vec { return bitwise(a, b, bit.Or) }

func Xor(a, b api.Vec) api.Vec { return bitwise(a, b, bit.Xor) }

func Xnor(a, b api.Vec) api.Vec { return bitwise(a, b, bit.Eq) }

func Not(a api.Vec) api.Vec {
	return bitwise(a, a, func(p, _ api.Bit) api.Bit { return bit.Not(p) })
}

func Cond(sel, a, b api.Vec) api.Vec {
	choose := func(p, q api.Bit) api.Bit { return bit.Mux(api.BX, p, q) }
	// A chosen operand keeps its bits z, which Mux would turn into x.
	switch Truth(sel) {
	case api.B1:
		choose = func(p, _ api.Bit) api.Bit { return p }
	case api.B0:
		choose = func(_, q api.Bit) api.Bit { return q }
	}
	return bitwise(a, b, choose)
}

// reduce combines all bits of a vector by an operation.
func reduce(a api.Vec, op func(p, q api.Bit) api.Bit) api.Bit {
	bits := counted(a).Bits
	result := bit.Buf(bits[0])
	for _, x := range bits[1:] {
		result = op(result, x)
	}
	return result
}

func RedAnd(a api.Vec) api.Vec { return single(reduce(a, bit.And)) }

func RedOr(a api.Vec) api.Vec { return single(reduce(a, bit.Or)) }

func RedXor(a api.Vec) api.Vec { return single(reduce(a, bit.Xor)) }

func RedNand(a api.Vec) api.Vec { return Not(RedAnd(a)) }

func RedNor(a api.Vec) api.Vec { return Not(RedOr(a)) }

func RedXnor(a api.Vec) api.Vec { return Not(RedXor(a)) }

func LNot(a api.Vec) api.Vec { return single(bit.Not(Truth(a))) }

func LAnd(a, b api.Vec) api.Vec { return single(bit.And(Truth(a), Truth(b))) }

func LOr(a, b api.Vec) api.Vec { return single(bit.Or(Truth(a), Truth(b))) }

// arithmetic applies an operation to the numbers of the balanced operands. The
// result is unknown if an operand is, or if the operation fails.
func arithmetic(a, b api.Vec, op func(m, n []bool, signed bool) ([]bool, api.Errno)) api.Vec {
	p, q, signed := balance(a, b)
	if !known(p) || !known(q) {
		return unknown(len(p), signed)
	}
	result, e := op(number(p), number(q), signed)
	if e != api.OK {
		return unknown(len(p), signed)
	}
	return vector(result, signed)
}

// total makes an operation that never fails, and that is the same for signed and
// for unsigned numbers of one width, one for arithmetic.
func total(op func(m, n []bool) []bool) func(m, n []bool, signed bool) ([]bool, api.Errno) {
	return func(m, n []bool, _ bool) ([]bool, api.Errno) { return op(m, n), api.OK }
}

func divide(m, n []bool, signed bool) (q, r []bool, e api.Errno) {
	if signed {
		return bv.SDivMod(m, n)
	}
	return bv.DivMod(m, n)
}

func Add(a, b api.Vec) api.Vec { return arithmetic(a, b, total(bv.Add)) }

func Sub(a, b api.Vec) api.Vec { return arithmetic(a, b, total(bv.Sub)) }

func Mul(a, b api.Vec) api.Vec { return arithmetic(a, b, total(bv.Mul)) }

func Div(a, b api.Vec) api.Vec {
	return arithmetic(a, b, func(m, n []bool, signed bool) ([]bool, api.Errno) {
		q, _, e := divide(m, n, signed)
		return q, e
	})
}

func Mod(a, b api.Vec) api.Vec {
	return arithmetic(a, b, func(m, n []bool, signed bool) ([]bool, api.Errno) {
		_, r, e := divide(m, n, signed)
		return r, e
	})
}

func Neg(a api.Vec) api.Vec {
	a = counted(a)
	return Sub(vector(make([]bool, len(a.Bits)), a.Signed), a)
}

func Pow(a, b api.Vec) api.Vec {
	a, b = counted(a), counted(b)
	if !known(a.Bits) || !known(b.Bits) {
		return unknown(len(a.Bits), a.Signed)
	}
	if negative := extension(b) == api.B1; negative {
		switch base, _ := Int(a); {
		case Truth(a) == api.B0:
			return unknown(len(a.Bits), a.Signed)
		case base != 1 && base != -1:
			return vector(make([]bool, len(a.Bits)), a.Signed)
		}
		// A power of 1 or -1 depends only on whether the exponent is even, which the
		// unsigned value of a negative exponent tells as well.
	}
	return vector(bv.Pow(number(a.Bits), number(b.Bits)), a.Signed)
}

func Eq(a, b api.Vec) api.Vec { return RedAnd(Xnor(a, b)) }

func Ne(a, b api.Vec) api.Vec { return Not(Eq(a, b)) }

// compare tells whether the order of the values of the balanced operands, as bv.Cmp
// returns it, is one that holds accepts.
func compare(a, b api.Vec, holds func(order int) bool) api.Vec {
	p, q, signed := balance(a, b)
	if !known(p) || !known(q) {
		return single(api.BX)
	}
	order := bv.Cmp
	if signed {
		order = bv.SCmp
	}
	return single(bit.FromBool(holds(order(number(p), number(q)))))
}

func Lt(a, b api.Vec) api.Vec { return compare(a, b, func(order int) bool { return order < 0 }) }

func Le(a, b api.Vec) api.Vec { return compare(a, b, func(order int) bool { return order <= 0 }) }

func Gt(a, b api.Vec) api.Vec { return compare(a, b, func(order int) bool { return order > 0 }) }

func Ge(a, b api.Vec) api.Vec { return compare(a, b, func(order int) bool { return order >= 0 }) }

// match reports whether all pairs of bits of the balanced operands are alike.
func match(a, b api.Vec, alike func(p, q api.Bit) bool) bool {
	p, q, _ := balance(a, b)
	for i := range p {
		if !alike(p[i], q[i]) {
			return false
		}
	}
	return true
}

func CaseEq(a, b api.Vec) api.Vec { return single(bit.FromBool(match(a, b, bit.Same))) }

func CaseNe(a, b api.Vec) api.Vec { return Not(CaseEq(a, b)) }

func MatchZ(a, b api.Vec) bool {
	return match(a, b, func(p, q api.Bit) bool {
		return p == api.BZ || q == api.BZ || bit.Same(p, q)
	})
}

func MatchX(a, b api.Vec) bool {
	return match(a, b, func(p, q api.Bit) bool {
		return !bit.Known(p) || !bit.Known(q) || bit.Same(p, q)
	})
}

// shift moves the bits of a by the unsigned value of b. A value above the width of
// a has the effect of that width.
func shift(a, b api.Vec, move func(a api.Vec, n int) []api.Bit) api.Vec {
	a, b = counted(a), counted(b)
	if !known(b.Bits) {
		return unknown(len(a.Bits), a.Signed)
	}
	width := len(a.Bits)
	distance := width
	if n, ok := bv.Uint(number(b.Bits)); ok && n < uint64(width) {
		distance = int(n)
	}
	return api.Vec{Bits: move(a, distance), Signed: a.Signed}
}

func Shl(a, b api.Vec) api.Vec {
	return shift(a, b, func(a api.Vec, n int) []api.Bit { return window(a.Bits, -n, len(a.Bits), api.B0) })
}

func Shr(a, b api.Vec) api.Vec {
	return shift(a, b, func(a api.Vec, n int) []api.Bit { return window(a.Bits, n, len(a.Bits), api.B0) })
}

func AShl(a, b api.Vec) api.Vec { return Shl(a, b) }

func AShr(a, b api.Vec) api.Vec {
	return shift(a, b, func(a api.Vec, n int) []api.Bit { return window(a.Bits, n, len(a.Bits), extension(a)) })
}
