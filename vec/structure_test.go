package vec

import (
	"math"
	"slices"
	"testing"

	"netlab/api"
)

// P4.2

func TestResize(t *testing.T) {
	for _, a := range every() {
		for _, width := range []int{1, 2, 3, 4, 5, 63, 64, 65, 127, 128} {
			want := extend(read(a), width)
			want.Bits = want.Bits[:width]
			if got, e := Resize(a, width); !equal(got, want) || e != api.OK {
				t.Errorf("Resize(%s, %d) = %s, %d, want %s", show(a), width, show(got), e, show(want))
			}
		}
		for _, width := range badWidths() {
			if got, e := Resize(a, width); !equal(got, api.Vec{}) || e != api.ErrWidth {
				t.Errorf("Resize(%s, %d) = %s, %d", show(a), width, show(got), e)
			}
		}
	}
}

func TestResizeCases(t *testing.T) {
	for _, x := range []struct {
		a     string
		width int
		want  string
	}{
		{"s10", 4, "s1110"}, {"10", 4, "0010"}, {"sz0", 4, "szzz0"}, {"z0", 4, "00z0"}, {"sx1", 3, "sxx1"}, {"s01", 4, "s0001"},
		{"s1", 3, "s111"}, {"x", 3, "00x"}, {"s10z1", 2, "sz1"}, {"10z1", 3, "0z1"}, {"s10z1", 4, "s10z1"}, {"0111", 1, "1"},
	} {
		if got, e := Resize(of(x.a), x.width); show(got) != x.want || e != api.OK {
			t.Errorf("Resize(%s, %d) = %s, %d, want %s", x.a, x.width, show(got), e, x.want)
		}
	}
}

// joined is the concatenation of vectors.
func joined(l ...api.Vec) api.Vec {
	var a api.Vec
	for _, b := range l {
		a.Bits = slices.Concat(read(b).Bits, a.Bits)
	}
	return a
}

func TestConcat(t *testing.T) {
	check := func(l ...api.Vec) {
		t.Helper()
		want, wantError := joined(l...), api.OK
		if len(want.Bits) > 128 {
			want, wantError = api.Vec{}, api.ErrWidth
		}
		if len(l) == 0 {
			wantError = api.ErrShort
		}
		if got, e := Concat(l...); !equal(got, want) || e != wantError {
			t.Errorf("Concat of %d vectors = %s, %d, want %s, %d", len(l), show(got), e, show(want), wantError)
		}
	}
	check()
	check([]api.Vec{}...)
	for _, a := range every() {
		check(a)
	}
	for a, b := range pairs {
		check(a, b)
	}
	few := []api.Vec{of("0"), of("s1"), of("xz"), of("s10"), {}, {Bits: slices.Repeat([]api.Bit{api.B1}, 129)}, chosen(63)[5], chosen(64)[17]}
	for _, a := range few {
		for _, b := range few {
			for _, c := range few {
				check(a, b, c)
				check(c, a, of("01"), b)
			}
		}
	}
	for _, n := range []int{127, 128, 129, 130, 5000} {
		check(slices.Repeat([]api.Vec{of("s1")}, n)...)
		check(slices.Repeat([]api.Vec{{}}, n)...)
	}
}

func TestConcatCases(t *testing.T) {
	for _, x := range []struct {
		l    []api.Vec
		want string
	}{
		{[]api.Vec{of("10"), of("0z1")}, "100z1"},
		{[]api.Vec{of("s1")}, "1"},
		{[]api.Vec{of("s1"), of("sx0"), of("1")}, "1x01"},
		{[]api.Vec{of("1"), {}, of("0")}, "1x0"},
	} {
		if got, e := Concat(x.l...); show(got) != x.want || e != api.OK {
			t.Errorf("Concat = %s, %d, want %s", show(got), e, x.want)
		}
	}
	l := []api.Vec{chosen(64)[5], chosen(64)[6]}
	if got, e := Concat(l...); len(got.Bits) != 128 || e != api.OK {
		t.Errorf("Concat of twice 64 bits has %d bits, error %d", len(got.Bits), e)
	}
	if got, e := Concat(append(l, of("0"))...); !equal(got, api.Vec{}) || e != api.ErrWidth {
		t.Errorf("Concat to 129 bits = %s, error %d", show(got), e)
	}
}

func TestRepeat(t *testing.T) {
	for _, a := range every() {
		b := read(a)
		most := 128 / len(b.Bits)
		for n := 1; n <= most; n++ {
			want := joined(slices.Repeat([]api.Vec{b}, n)...)
			if got, e := Repeat(a, n); !equal(got, want) || e != api.OK {
				t.Errorf("Repeat(%s, %d) = %s, %d", show(a), n, show(got), e)
			}
		}
		for _, n := range []int{most + 1, most + 2, 129, 1 << 32, 1 << 62, math.MaxInt / len(b.Bits), math.MaxInt - 1, math.MaxInt} {
			if got, e := Repeat(a, n); !equal(got, api.Vec{}) || e != api.ErrWidth {
				t.Errorf("Repeat(%s, %d) = %s, %d", show(a), n, show(got), e)
			}
		}
		for _, n := range []int{0, -1, -128, math.MinInt} {
			if got, e := Repeat(a, n); !equal(got, api.Vec{}) || e != api.ErrArg {
				t.Errorf("Repeat(%s, %d) = %s, %d", show(a), n, show(got), e)
			}
		}
	}
}

type bounds struct{ hi, lo int }

// spans are the bounds of parts within, around and far away from a vector of a width.
func spans(width int) []bounds {
	var l []bounds
	edges := []int{math.MinInt, math.MinInt + 100, -1000, -130, -3, -2, -1, 0, 1, 2, width / 2, width - 2, width - 1, width, width + 1, width + 130, 1 << 40, math.MaxInt - 100, math.MaxInt}
	for _, lo := range edges {
		l = append(l, bounds{lo, lo})
		for _, n := range []int{1, 2, 3, 63, 126, 127} {
			if lo <= math.MaxInt-n {
				l = append(l, bounds{lo + n, lo})
			}
		}
	}
	return l
}

type badSpan struct {
	hi, lo int
	want   api.Errno
}

func badSpans() []badSpan {
	return []badSpan{
		{0, 1, api.ErrArg}, {-1, 0, api.ErrArg}, {2, 3, api.ErrArg}, {-5, -4, api.ErrArg}, {0, 1000, api.ErrArg},
		{math.MinInt, math.MaxInt, api.ErrArg}, {math.MinInt, 0, api.ErrArg}, {0, math.MaxInt, api.ErrArg}, {-2, math.MaxInt, api.ErrArg},
		{128, 0, api.ErrWidth}, {127, -1, api.ErrWidth}, {0, -128, api.ErrWidth}, {1000, 5, api.ErrWidth}, {-1, -129, api.ErrWidth},
		{math.MaxInt, 0, api.ErrWidth}, {0, math.MinInt, api.ErrWidth}, {math.MaxInt, math.MinInt, api.ErrWidth},
		{math.MaxInt, -1, api.ErrWidth}, {1, math.MinInt, api.ErrWidth}, {math.MaxInt, math.MaxInt - 128, api.ErrWidth},
		{math.MaxInt, math.MinInt + 1, api.ErrWidth}, {math.MaxInt - 1, math.MinInt, api.ErrWidth},
	}
}

func TestSlice(t *testing.T) {
	for _, a := range every() {
		b := read(a)
		for _, s := range spans(len(b.Bits)) {
			var want api.Vec
			for i := range s.hi - s.lo + 1 {
				x := api.BX
				if k := s.lo + i; k >= 0 && k < len(b.Bits) {
					x = b.Bits[k]
				}
				want.Bits = append(want.Bits, x)
			}
			if got, e := Slice(a, s.hi, s.lo); !equal(got, want) || e != api.OK {
				t.Errorf("Slice(%s, %d, %d) = %s, %d", show(a), s.hi, s.lo, show(got), e)
			}
		}
		for _, s := range badSpans() {
			if got, e := Slice(a, s.hi, s.lo); !equal(got, api.Vec{}) || e != s.want {
				t.Errorf("Slice(%s, %d, %d) = %s, %d", show(a), s.hi, s.lo, show(got), e)
			}
		}
	}
}

func TestSliceCases(t *testing.T) {
	for _, x := range []struct {
		a      string
		hi, lo int
		want   string
	}{
		{"1011", 4, 2, "x10"}, {"s1011", 3, 2, "10"}, {"1zx0", 2, 1, "zx"}, {"1z10", 0, 0, "0"}, {"10", 1, -2, "10xx"}, {"10", 7, 6, "xx"},
		{"10", -1, -3, "xxx"}, {"s1", 2, 0, "xx1"}, {"10", 2, -1, "x10x"},
	} {
		if got, e := Slice(of(x.a), x.hi, x.lo); show(got) != x.want || e != api.OK {
			t.Errorf("Slice(%s, %d, %d) = %s, %d, want %s", x.a, x.hi, x.lo, show(got), e, x.want)
		}
	}
}

// replaced is a with its bits from lo on replaced by those of b.
func replaced(a api.Vec, s bounds, b api.Vec) api.Vec {
	c := api.Vec{Bits: slices.Clone(a.Bits), Signed: a.Signed}
	b = extend(b, s.hi-s.lo+1)
	for k := range c.Bits {
		if s.lo <= k && k <= s.hi {
			c.Bits[k] = b.Bits[k-s.lo]
		}
	}
	return c
}

func TestPut(t *testing.T) {
	few := slices.Concat(small(2), chosen(64), chosen(128), invalid())
	for _, a := range few {
		l := spans(len(read(a).Bits))
		for _, b := range few {
			for _, s := range l {
				want := replaced(read(a), s, read(b))
				if got, e := Put(a, s.hi, s.lo, b); !equal(got, want) || e != api.OK {
					t.Errorf("Put(%s, %d, %d, %s) = %s, %d, want %s", show(a), s.hi, s.lo, show(b), show(got), e, show(want))
				}
			}
			for _, s := range badSpans() {
				if got, e := Put(a, s.hi, s.lo, b); !equal(got, api.Vec{}) || e != s.want {
					t.Errorf("Put(%s, %d, %d, %s) = %s, %d", show(a), s.hi, s.lo, show(b), show(got), e)
				}
			}
		}
	}
}

func TestPutCases(t *testing.T) {
	for _, x := range []struct {
		a      string
		hi, lo int
		b      string
		want   string
	}{
		{"0000", 2, 1, "11", "0110"},
		{"s0000", 2, 1, "z1", "s0z10"},
		{"1111", 2, 0, "s10", "1110"},
		{"1111", 2, 0, "10", "1010"},
		{"0000", 3, 0, "s10", "1110"},
		{"1111", 1, 0, "s0100", "1100"},
		{"0000", 5, 2, "s1011", "1100"},
		{"0000", 1, -2, "1011", "0010"},
		{"0000", 5, -2, "10110100", "1101"},
		{"0000", 5, 4, "11", "0000"},
		{"0000", -1, -2, "11", "0000"},
		{"xxxx", 1, 1, "0", "xx0x"},
	} {
		if got, e := Put(of(x.a), x.hi, x.lo, of(x.b)); show(got) != x.want || e != api.OK {
			t.Errorf("Put(%s, %d, %d, %s) = %s, %d, want %s", x.a, x.hi, x.lo, x.b, show(got), e, x.want)
		}
	}
}

// P4.10

func TestPartsOfConcatenations(t *testing.T) {
	for x, y := range pairs {
		a, b := read(x), read(y)
		whole, e := Concat(x, y, a)
		if e != api.OK {
			continue
		}
		na, nb := len(a.Bits), len(b.Bits)
		for _, p := range []struct {
			hi, lo int
			want   api.Vec
		}{
			{na - 1, 0, a}, {na + nb - 1, na, b}, {2*na + nb - 1, na + nb, a},
		} {
			if got, e := Slice(whole, p.hi, p.lo); !equal(got, api.Vec{Bits: p.want.Bits}) || e != api.OK {
				t.Errorf("bits %d to %d of the concatenation %s = %s, %d", p.hi, p.lo, show(whole), show(got), e)
			}
		}
	}
}

func TestPuttingBack(t *testing.T) {
	for _, a := range every() {
		b := read(a)
		for _, s := range spans(len(b.Bits)) {
			part := sure(t)(Slice(a, s.hi, s.lo))
			if got := sure(t)(Put(a, s.hi, s.lo, part)); !equal(got, b) {
				t.Errorf("the bits %d to %d of %s, put back, yield %s", s.hi, s.lo, show(a), show(got))
			}
		}
	}
}

func TestResizingBack(t *testing.T) {
	for _, a := range every() {
		b := read(a)
		for width := len(b.Bits); width <= 128; width++ {
			wider := sure(t)(Resize(a, width))
			if back := sure(t)(Resize(wider, len(b.Bits))); !equal(back, b) {
				t.Errorf("%s, resized to %d and back, is %s", show(a), width, show(back))
			}
			if allKnown(b) && (!allKnown(wider) || value(wider).Cmp(value(b)) != 0) {
				t.Errorf("%s, extended to %d, has another value: %s", show(a), width, show(wider))
			}
		}
	}
}
