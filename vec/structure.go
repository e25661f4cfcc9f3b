package vec

import (
	"slices"

	"netlab/api"
)

func Resize(a api.Vec, width int) (api.Vec, api.Errno) {
	if !fits(width) {
		return api.Vec{}, api.ErrWidth
	}
	a = counted(a)
	return api.Vec{Bits: resized(a, width), Signed: a.Signed}, api.OK
}

func Concat(l ...api.Vec) (api.Vec, api.Errno) {
	if len(l) == 0 {
		return api.Vec{}, api.ErrShort
	}
	var bits []api.Bit
	for i := len(l) - 1; i >= 0; i-- {
		bits = append(bits, counted(l[i]).Bits...)
		if len(bits) > api.MaxWidth {
			return api.Vec{}, api.ErrWidth
		}
	}
	return api.Vec{Bits: bits}, api.OK
}

func Repeat(a api.Vec, n int) (api.Vec, api.Errno) {
	bits := counted(a).Bits
	switch {
	case n < 1:
		return api.Vec{}, api.ErrArg
	case n > api.MaxWidth/len(bits):
		return api.Vec{}, api.ErrWidth
	}
	return api.Vec{Bits: slices.Repeat(bits, n)}, api.OK
}

func Slice(a api.Vec, hi, lo int) (api.Vec, api.Errno) {
	width, e := span(hi, lo)
	if e != api.OK {
		return api.Vec{}, e
	}
	return api.Vec{Bits: window(counted(a).Bits, lo, width, api.BX)}, api.OK
}

func Put(a api.Vec, hi, lo int, b api.Vec) (api.Vec, api.Errno) {
	width, e := span(hi, lo)
	if e != api.OK {
		return api.Vec{}, e
	}
	a = counted(a)
	bits := slices.Clone(a.Bits)
	part := resized(counted(b), width)
	for i := max(lo, 0); i <= min(hi, len(bits)-1); i++ {
		bits[i] = part[i-lo]
	}
	return api.Vec{Bits: bits, Signed: a.Signed}, api.OK
}

// span is the number of bits from lo to hi.
func span(hi, lo int) (int, api.Errno) {
	switch {
	case hi < lo:
		return 0, api.ErrArg
	// The difference of two ints may overflow; that of unsigned numbers is exact here.
	case uint(hi)-uint(lo) >= api.MaxWidth:
		return 0, api.ErrWidth
	}
	return hi - lo + 1, api.OK
}

// window copies the bits from position lo on. Beyond both ends, the bits continue
// with fill.
func window(bits []api.Bit, lo, width int, fill api.Bit) []api.Bit {
	w := make([]api.Bit, width)
	for i := range w {
		w[i] = fill
		if k := lo + i; 0 <= k && k < len(bits) {
			w[i] = bits[k]
		}
	}
	return w
}

// extension is the bit with which a vector continues above its highest bit.
func extension(a api.Vec) api.Bit {
	if a.Signed {
		return a.Bits[len(a.Bits)-1]
	}
	return api.B0
}

func resized(a api.Vec, width int) []api.Bit { return window(a.Bits, 0, width, extension(a)) }

// balance returns the bits of the balanced operands, as copies.
func balance(a, b api.Vec) (p, q []api.Bit, signed bool) {
	a, b = counted(a), counted(b)
	signed = a.Signed && b.Signed
	// The sign is replaced first: beside an unsigned operand, a signed one is
	// extended with zeros.
	a.Signed, b.Signed = signed, signed
	width := max(len(a.Bits), len(b.Bits))
	return resized(a, width), resized(b, width), signed
}
