// Package bit implements logic on single four-state bits.
package bit

import "netlab/api"

// The tables are indexed by the arguments in the order B0, B1, BX, BZ.
// No entry is BZ, because an operator reads z as x.
var (
	notTable = [4]api.Bit{api.B1, api.B0, api.BX, api.BX}
	bufTable = [4]api.Bit{api.B0, api.B1, api.BX, api.BX}

	andTable = [4][4]api.Bit{
		{api.B0, api.B0, api.B0, api.B0},
		{api.B0, api.B1, api.BX, api.BX},
		{api.B0, api.BX, api.BX, api.BX},
		{api.B0, api.BX, api.BX, api.BX},
	}
	orTable = [4][4]api.Bit{
		{api.B0, api.B1, api.BX, api.BX},
		{api.B1, api.B1, api.B1, api.B1},
		{api.BX, api.B1, api.BX, api.BX},
		{api.BX, api.B1, api.BX, api.BX},
	}
	xorTable = [4][4]api.Bit{
		{api.B0, api.B1, api.BX, api.BX},
		{api.B1, api.B0, api.BX, api.BX},
		{api.BX, api.BX, api.BX, api.BX},
		{api.BX, api.BX, api.BX, api.BX},
	}
	// agreeTable holds what both inputs of a multiplexer have in common, which is
	// all that is known of its output while its selector is unknown.
	agreeTable = [4][4]api.Bit{
		{api.B0, api.BX, api.BX, api.BX},
		{api.BX, api.B1, api.BX, api.BX},
		{api.BX, api.BX, api.BX, api.BX},
		{api.BX, api.BX, api.BX, api.BX},
	}
)

const characters = "01xz"

// state makes any value of the type one of the four states, so that it can index
// a table: values above BZ count as BX.
func state(a api.Bit) api.Bit {
	if a > api.BZ {
		return api.BX
	}
	return a
}

func Valid(a api.Bit) bool { return a <= api.BZ }

func Known(a api.Bit) bool { return a <= api.B1 }

func Not(a api.Bit) api.Bit { return notTable[state(a)] }

func Buf(a api.Bit) api.Bit { return bufTable[state(a)] }

func And(a, b api.Bit) api.Bit { return andTable[state(a)][state(b)] }

func Or(a, b api.Bit) api.Bit { return orTable[state(a)][state(b)] }

func Xor(a, b api.Bit) api.Bit { return xorTable[state(a)][state(b)] }

func Mux(sel, a, b api.Bit) api.Bit {
	switch sel {
	case api.B1:
		return Buf(a)
	case api.B0:
		return Buf(b)
	}
	return agreeTable[state(a)][state(b)]
}

func Eq(a, b api.Bit) api.Bit { return Not(Xor(a, b)) }

func Same(a, b api.Bit) bool { return state(a) == state(b) }

func Leq(a, b api.Bit) bool { return Same(a, b) || !Known(a) && Known(b) }

func FromBool(v bool) api.Bit {
	if v {
		return api.B1
	}
	return api.B0
}

func Char(a api.Bit) byte { return characters[state(a)] }

func Parse(c byte) (api.Bit, bool) {
	switch c {
	case '0':
		return api.B0, true
	case '1':
		return api.B1, true
	case 'x', 'X':
		return api.BX, true
	case 'z', 'Z', '?':
		return api.BZ, true
	}
	return 0, false
}
