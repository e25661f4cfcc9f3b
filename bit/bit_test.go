package bit

import (
	"testing"

	"netlab/api"
)

const (
	b0 = api.B0
	b1 = api.B1
	bx = api.BX
	bz = api.BZ
)

type unary struct {
	name string
	f    func(a api.Bit) api.Bit
}

type binary struct {
	name string
	f    func(a, b api.Bit) api.Bit
}

// bits are all values of the type: the four states and those above BZ.
func bits() []api.Bit {
	var l []api.Bit
	for i := range 256 {
		l = append(l, api.Bit(i))
	}
	return l
}

// few are the four states and some values above BZ, for properties of several bits.
func few() []api.Bit { return []api.Bit{b0, b1, bx, bz, 4, 5, 127, 128, 254, 255} }

// counted is the state as which a value counts.
func counted(a api.Bit) api.Bit {
	if a > bz {
		return bx
	}
	return a
}

func unaries() []unary { return []unary{{"Not", Not}, {"Buf", Buf}} }

func binaries() []binary {
	return []binary{{"And", And}, {"Or", Or}, {"Xor", Xor}, {"Eq", Eq}}
}

// P1.1

func TestValid(t *testing.T) {
	for _, a := range bits() {
		want := a == b0 || a == b1 || a == bx || a == bz
		if got := Valid(a); got != want {
			t.Errorf("Valid(%d) = %t", a, got)
		}
	}
}

func TestKnown(t *testing.T) {
	for _, a := range bits() {
		if got := Known(a); got != (a == b0 || a == b1) {
			t.Errorf("Known(%d) = %t", a, got)
		}
	}
}

func TestSame(t *testing.T) {
	for _, a := range bits() {
		for _, b := range bits() {
			if got := Same(a, b); got != (counted(a) == counted(b)) {
				t.Errorf("Same(%d, %d) = %t", a, b, got)
			}
		}
	}
}

func TestLeq(t *testing.T) {
	want := [4][4]bool{
		{true, false, false, false},
		{false, true, false, false},
		{true, true, true, false},
		{true, true, false, true},
	}
	for _, a := range bits() {
		for _, b := range bits() {
			if got := Leq(a, b); got != want[counted(a)][counted(b)] {
				t.Errorf("Leq(%d, %d) = %t", a, b, got)
			}
		}
	}
}

// P1.2

func TestUnaryOperators(t *testing.T) {
	not := [4]api.Bit{b1, b0, bx, bx}
	buf := [4]api.Bit{b0, b1, bx, bx}
	for _, a := range bits() {
		if got := Not(a); got != not[counted(a)] {
			t.Errorf("Not(%d) = %d", a, got)
		}
		if got := Buf(a); got != buf[counted(a)] {
			t.Errorf("Buf(%d) = %d", a, got)
		}
	}
}

func TestBinaryOperators(t *testing.T) {
	want := map[string][4]string{
		"And": {"0000", "01xx", "0xxx", "0xxx"},
		"Or":  {"01xx", "1111", "x1xx", "x1xx"},
		"Xor": {"01xx", "10xx", "xxxx", "xxxx"},
		"Eq":  {"10xx", "01xx", "xxxx", "xxxx"},
	}
	value := map[byte]api.Bit{'0': b0, '1': b1, 'x': bx}
	for _, o := range binaries() {
		for _, a := range bits() {
			for _, b := range bits() {
				w := value[want[o.name][counted(a)][counted(b)]]
				if got := o.f(a, b); got != w {
					t.Errorf("%s(%d, %d) = %d, want %d", o.name, a, b, got, w)
				}
			}
		}
	}
}

// P1.3

func TestMux(t *testing.T) {
	buf := [4]api.Bit{b0, b1, bx, bx}
	for _, sel := range bits() {
		for _, a := range few() {
			for _, b := range few() {
				want := bx
				switch {
				case sel == b1:
					want = buf[counted(a)]
				case sel == b0:
					want = buf[counted(b)]
				case a == b && a <= b1:
					want = a
				}
				if got := Mux(sel, a, b); got != want {
					t.Errorf("Mux(%d, %d, %d) = %d, want %d", sel, a, b, got, want)
				}
			}
		}
	}
}

// P1.4

func TestFromBool(t *testing.T) {
	if FromBool(true) != b1 || FromBool(false) != b0 {
		t.Errorf("FromBool: true gives %d, false gives %d", FromBool(true), FromBool(false))
	}
}

func TestChar(t *testing.T) {
	want := [4]byte{'0', '1', 'x', 'z'}
	for _, a := range bits() {
		if got := Char(a); got != want[counted(a)] {
			t.Errorf("Char(%d) = %q", a, got)
		}
	}
}

func TestParse(t *testing.T) {
	accepted := map[byte]api.Bit{'0': b0, '1': b1, 'x': bx, 'X': bx, 'z': bz, 'Z': bz, '?': bz}
	for i := range 256 {
		c := byte(i)
		want, is := accepted[c]
		if got, ok := Parse(c); got != want || ok != is {
			t.Errorf("Parse(%q) = %d, %t, want %d, %t", c, got, ok, want, is)
		}
	}
}

// P1.5; the order is tested against a table of its own in TestLeq.

func refinements(a api.Bit) []api.Bit {
	var l []api.Bit
	for _, b := range few() {
		if Leq(a, b) {
			l = append(l, b)
		}
	}
	return l
}

func TestUnaryMonotone(t *testing.T) {
	for _, o := range unaries() {
		for _, a := range few() {
			for _, c := range refinements(a) {
				if !Leq(o.f(a), o.f(c)) {
					t.Errorf("%s: %d refines %d, but %d does not refine %d", o.name, c, a, o.f(c), o.f(a))
				}
			}
		}
	}
}

func TestBinaryMonotone(t *testing.T) {
	for _, o := range binaries() {
		for _, a := range few() {
			for _, b := range few() {
				for _, c := range refinements(a) {
					for _, d := range refinements(b) {
						if !Leq(o.f(a, b), o.f(c, d)) {
							t.Errorf("%s(%d, %d) does not refine %s(%d, %d)", o.name, c, d, o.name, a, b)
						}
					}
				}
			}
		}
	}
}

func TestMuxMonotone(t *testing.T) {
	for _, sel := range few() {
		for _, a := range few() {
			for _, b := range few() {
				checkMuxRefined(t, sel, a, b)
			}
		}
	}
}

func checkMuxRefined(t *testing.T, sel, a, b api.Bit) {
	t.Helper()
	for _, s := range refinements(sel) {
		for _, c := range refinements(a) {
			for _, d := range refinements(b) {
				if !Leq(Mux(sel, a, b), Mux(s, c, d)) {
					t.Errorf("Mux(%d, %d, %d) does not refine Mux(%d, %d, %d)", s, c, d, sel, a, b)
				}
			}
		}
	}
}

// P1.6

func TestBooleanValues(t *testing.T) {
	bit := map[bool]api.Bit{false: b0, true: b1}
	for _, p := range []bool{false, true} {
		a := bit[p]
		if Not(a) != bit[!p] || Buf(a) != a {
			t.Errorf("Not and Buf of %d are %d and %d", a, Not(a), Buf(a))
		}
		for _, q := range []bool{false, true} {
			b := bit[q]
			if And(a, b) != bit[p && q] || Or(a, b) != bit[p || q] || Xor(a, b) != bit[p != q] || Eq(a, b) != bit[p == q] {
				t.Errorf("And, Or, Xor, Eq of %d, %d are %d, %d, %d, %d", a, b, And(a, b), Or(a, b), Xor(a, b), Eq(a, b))
			}
			if Mux(b1, a, b) != a || Mux(b0, a, b) != b {
				t.Errorf("Mux of %d, %d selects %d, %d", a, b, Mux(b1, a, b), Mux(b0, a, b))
			}
		}
	}
}

// P1.7

func TestCommutativeAndDeMorgan(t *testing.T) {
	for _, a := range few() {
		for _, b := range few() {
			for _, o := range []binary{{"And", And}, {"Or", Or}, {"Xor", Xor}} {
				if o.f(a, b) != o.f(b, a) {
					t.Errorf("%s is not commutative on %d, %d", o.name, a, b)
				}
			}
			if Not(And(a, b)) != Or(Not(a), Not(b)) || Not(Or(a, b)) != And(Not(a), Not(b)) {
				t.Errorf("De Morgan's laws fail on %d, %d", a, b)
			}
		}
	}
}

func TestAssociativeAndDistributive(t *testing.T) {
	for _, a := range few() {
		for _, b := range few() {
			for _, c := range few() {
				for _, o := range []binary{{"And", And}, {"Or", Or}, {"Xor", Xor}} {
					if o.f(o.f(a, b), c) != o.f(a, o.f(b, c)) {
						t.Errorf("%s is not associative on %d, %d, %d", o.name, a, b, c)
					}
				}
				if And(a, Or(b, c)) != Or(And(a, b), And(a, c)) || Or(a, And(b, c)) != And(Or(a, b), Or(a, c)) {
					t.Errorf("And and Or do not distribute on %d, %d, %d", a, b, c)
				}
			}
		}
	}
}

func TestIdempotentUpToBuf(t *testing.T) {
	for _, a := range bits() {
		if And(a, a) != Buf(a) || Or(a, a) != Buf(a) {
			t.Errorf("And, Or of %d with itself are %d, %d", a, And(a, a), Or(a, a))
		}
	}
}

// P1.8

func TestOrder(t *testing.T) {
	for _, a := range few() {
		if !Leq(a, a) {
			t.Errorf("Leq is not reflexive on %d", a)
		}
		for _, b := range few() {
			if Leq(a, b) && Leq(b, a) && !Same(a, b) {
				t.Errorf("Leq is not antisymmetric on %d, %d", a, b)
			}
			for _, c := range few() {
				if Leq(a, b) && Leq(b, c) && !Leq(a, c) {
					t.Errorf("Leq is not transitive on %d, %d, %d", a, b, c)
				}
			}
		}
	}
}

// P1.9

func TestCharactersRoundTrip(t *testing.T) {
	for _, a := range bits() {
		if got, ok := Parse(Char(a)); !ok || got != counted(a) {
			t.Errorf("Parse(Char(%d)) = %d, %t", a, got, ok)
		}
	}
}

// P1: equal arguments yield equal results, whatever was called before.

func TestResultsRepeat(t *testing.T) {
	record := func() string {
		var l []byte
		for _, a := range bits() {
			for _, b := range bits() {
				l = append(l, byte(And(a, b)), byte(Or(a, b)), byte(Xor(a, b)), byte(Eq(a, b)), byte(Mux(a, b, a)))
				l = append(l, byte(Not(a)), byte(Buf(b)), Char(a))
			}
		}
		return string(l)
	}
	if record() != record() {
		t.Error("a second round of calls gives other results")
	}
}

func TestExamples(t *testing.T) {
	for _, x := range []struct {
		name      string
		got, want api.Bit
	}{
		{"And(0, x)", And(b0, bx), b0},
		{"And(1, z)", And(b1, bz), bx},
		{"Or(1, x)", Or(b1, bx), b1},
		{"Xor(x, x)", Xor(bx, bx), bx},
		{"Mux(x, 1, 1)", Mux(bx, b1, b1), b1},
		{"Mux(x, 1, 0)", Mux(bx, b1, b0), bx},
		{"Mux(1, z, 0)", Mux(b1, bz, b0), bx},
	} {
		if x.got != x.want {
			t.Errorf("%s = %d, want %d", x.name, x.got, x.want)
		}
	}
	if !Leq(bx, b0) || Leq(bx, bz) {
		t.Error("x is not below 0, or below z")
	}
	if a, ok := Parse('?'); a != bz || !ok {
		t.Errorf("Parse('?') = %d, %t", a, ok)
	}
}
