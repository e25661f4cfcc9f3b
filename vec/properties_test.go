package vec

import (
	"slices"
	"strconv"
	"strings"
	"testing"

	"netlab/api"
)

// forms are the functions of one vector that return vectors and are no operators.
func forms() []unary {
	resize := func(width int) func(a api.Vec) api.Vec {
		return func(a api.Vec) api.Vec { b, _ := Resize(a, width); return b }
	}
	repeat := func(n int) func(a api.Vec) api.Vec {
		return func(a api.Vec) api.Vec { b, _ := Repeat(a, n); return b }
	}
	slice := func(hi, lo int) func(a api.Vec) api.Vec {
		return func(a api.Vec) api.Vec { b, _ := Slice(a, hi, lo); return b }
	}
	return []unary{
		{"Truth", func(a api.Vec) api.Vec { return one(Truth(a)) }},
		{"WithSign false", func(a api.Vec) api.Vec { return WithSign(a, false) }},
		{"WithSign true", func(a api.Vec) api.Vec { return WithSign(a, true) }},
		{"Resize to 1", resize(1)}, {"Resize to 2", resize(2)}, {"Resize to 64", resize(64)}, {"Resize to 128", resize(128)},
		{"Repeat once", repeat(1)}, {"Repeat twice", repeat(2)}, {"Repeat 40 times", repeat(40)},
		{"Concat", func(a api.Vec) api.Vec { b, _ := Concat(a); return b }},
		{"Slice 0 to 0", slice(0, 0)}, {"Slice 1 to 0", slice(1, 0)}, {"Slice 3 to -2", slice(3, -2)}, {"Slice 127 to 0", slice(127, 0)},
	}
}

// joins are the functions of two vectors that return vectors and are no operators.
func joins() []binary {
	put := func(hi, lo int) func(a, b api.Vec) api.Vec {
		return func(a, b api.Vec) api.Vec { c, _ := Put(a, hi, lo, b); return c }
	}
	l := []binary{
		{"Concat", func(a, b api.Vec) api.Vec { c, _ := Concat(a, b); return c }},
		{"Put 0 to 0", put(0, 0)}, {"Put 1 to 0", put(1, 0)}, {"Put 2 to 1", put(2, 1)}, {"Put 5 to -1", put(5, -1)},
		{"Put 127 to 0", put(127, 0)}, {"Put -1 to -1", put(-1, -1)},
		{"Cond of both", func(a, b api.Vec) api.Vec { return Cond(a, b, of("s01xz")) }},
		{"Cond before both", func(a, b api.Vec) api.Vec { return Cond(b, of("01xz"), a) }},
	}
	for _, sel := range []string{"0", "1", "x", "z", "s0x1", "0z0"} {
		l = append(l, binary{"Cond of " + sel, func(a, b api.Vec) api.Vec { return Cond(of(sel), a, b) }})
	}
	return l
}

// few are vectors for tests that call all functions.
func few() []api.Vec {
	l := small(2)
	for _, width := range []int{63, 64, 65, 128} {
		l = append(l, chosen(width)[5:9]...)
		l = append(l, chosen(width)[14:]...)
	}
	return l
}

// P4.8

// below reports whether a is below b, with z counted as x.
func below(a, b api.Vec) bool {
	return a.Signed == b.Signed && slices.EqualFunc(a.Bits, b.Bits, func(x, y api.Bit) bool {
		return x >= api.BX || x == y
	})
}

// refinements are the vectors above a, with z counted as x, that differ from it in
// one bit: others are reached by such steps. Of a wide vector, the unknown bits are
// refined up to the eighth, and the last one.
func refinements(a api.Vec) []api.Vec {
	var l []api.Vec
	for i, x := range a.Bits {
		if len(l) >= 24 && i < len(a.Bits)-1 {
			continue
		}
		for y := range api.BZ + 1 {
			if x >= api.BX && x != y {
				b := api.Vec{Bits: slices.Clone(a.Bits), Signed: a.Signed}
				b.Bits[i] = y
				l = append(l, b)
			}
		}
	}
	return l
}

func TestUnaryMonotone(t *testing.T) {
	for _, o := range slices.Concat(unaries(), forms()) {
		for _, a := range slices.Concat(small(4), wide()) {
			for _, b := range refinements(a) {
				if !below(o.f(a), o.f(b)) {
					t.Errorf("%s: %s is refined to %s, but %s becomes %s", o.name, show(a), show(b), show(o.f(a)), show(o.f(b)))
				}
			}
		}
	}
}

func checkMonotone(t *testing.T, o binary, a, b api.Vec) {
	t.Helper()
	before := o.f(a, b)
	for _, c := range refinements(a) {
		if after := o.f(c, b); !below(before, after) {
			t.Errorf("%s of %s and %s is %s; with %s before, it is %s", o.name, show(a), show(b), show(before), show(c), show(after))
		}
	}
	for _, c := range refinements(b) {
		if after := o.f(a, c); !below(before, after) {
			t.Errorf("%s of %s and %s is %s; with %s behind, it is %s", o.name, show(a), show(b), show(before), show(c), show(after))
		}
	}
}

func TestBinaryMonotone(t *testing.T) {
	for _, o := range slices.Concat(binaries(), joins()) {
		for _, l := range [][]api.Vec{small(2), slices.Concat(all(3), all(1)), few()[40:]} {
			for _, a := range l {
				for _, b := range l {
					checkMonotone(t, o, a, b)
				}
			}
		}
	}
}

func TestCondMonotone(t *testing.T) {
	l := small(2)
	for _, sel := range slices.Concat(small(2), []api.Vec{of("0zx"), of("s00x0"), of("xxx1")}) {
		for _, finer := range refinements(sel) {
			for _, a := range l {
				for _, b := range l {
					if before, after := Cond(sel, a, b), Cond(finer, a, b); !below(before, after) {
						t.Errorf("Cond(%s, %s, %s) = %s, but %s for %s", show(sel), show(a), show(b), show(before), show(after), show(finer))
					}
				}
			}
		}
	}
}

// P4.9

func TestKnownResults(t *testing.T) {
	l := knownOnly(slices.Concat(small(3), chosen(64), chosen(128)))
	for _, a := range l {
		for _, o := range unaries() {
			if !Known(o.f(a)) {
				t.Errorf("%s(%s) = %s", o.name, show(a), show(o.f(a)))
			}
		}
		for _, b := range l {
			zero := value(b).Sign() == 0
			noPower := value(a).Sign() == 0 && value(b).Sign() < 0
			for _, o := range slices.Concat(binaries(), cases()) {
				want := !(zero && (o.name == "Div" || o.name == "Mod") || noPower && o.name == "Pow")
				if got := o.f(a, b); Known(got) != want {
					t.Errorf("%s(%s, %s) = %s", o.name, show(a), show(b), show(got))
				}
			}
			if !Known(Cond(a, b, a)) {
				t.Errorf("Cond(%s, %s) is not known", show(a), show(b))
			}
		}
	}
}

func number64(v bool) int64 {
	if v {
		return 1
	}
	return 0
}

func power64(m, n int64) int64 {
	result := int64(1)
	for range n {
		result *= m
	}
	return result
}

// TestIntegers calculates in vectors that are wide enough for every result.
func TestIntegers(t *testing.T) {
	const width = 48
	for _, signed := range []bool{false, true} {
		for m := int64(-11); m <= 11; m++ {
			for n := int64(-11); n <= 11; n++ {
				if signed || m >= 0 && n >= 0 {
					checkIntegers(t, m, n, width, signed)
				}
			}
		}
	}
}

func checkIntegers(t *testing.T, m, n int64, width int, signed bool) {
	t.Helper()
	a := sure(t)(FromInt(m, width, signed))
	b := sure(t)(FromInt(n, width, signed))
	want := map[string]int64{
		"And": m & n, "Or": m | n, "Xor": m ^ n, "Add": m + n, "Mul": m * n,
		"Eq": number64(m == n), "Ne": number64(m != n), "Lt": number64(m < n), "Le": number64(m <= n), "Gt": number64(m > n), "Ge": number64(m >= n),
		"CaseEq": number64(m == n), "CaseNe": number64(m != n), "MatchZ": number64(m == n), "MatchX": number64(m == n),
		"LAnd": number64(m != 0 && n != 0), "LOr": number64(m != 0 || n != 0),
	}
	if signed || m >= n {
		want["Sub"] = m - n
	}
	if signed {
		want["Xnor"] = ^(m ^ n)
	}
	if n != 0 {
		want["Div"], want["Mod"] = m/n, m%n
	}
	if n >= 0 {
		want["Pow"], want["Shl"], want["AShl"], want["AShr"] = power64(m, n), m<<n, m<<n, m>>n
		if m >= 0 {
			want["Shr"] = m >> n
		}
	}
	for _, o := range slices.Concat(binaries(), cases()) {
		if w, ok := want[o.name]; ok {
			if got, ok := Int(o.f(a, b)); got != w || !ok {
				t.Errorf("%s of %d and %d (signed %t) is %d, %t, want %d", o.name, m, n, signed, got, ok, w)
			}
		}
	}
	if signed {
		if got, ok := Int(Neg(a)); got != -m || !ok {
			t.Errorf("Neg of %d is %d, %t", m, got, ok)
		}
		if got, ok := Int(Not(a)); got != ^m || !ok {
			t.Errorf("Not of %d is %d, %t", m, got, ok)
		}
	}
	if got, ok := Int(LNot(a)); got != number64(m == 0) || !ok {
		t.Errorf("LNot of %d is %d, %t", m, got, ok)
	}
}

// P4.11

func TestMatching(t *testing.T) {
	for x, y := range pairs {
		a, b := balanced(read(x), read(y))
		eq, z, m := equal(CaseEq(x, y), of("1")), MatchZ(x, y), MatchX(x, y)
		if eq != equal(a, b) {
			t.Errorf("CaseEq(%s, %s) = %t", show(x), show(y), eq)
		}
		if eq && !z || z && !m {
			t.Errorf("%s and %s: CaseEq %t, MatchZ %t, MatchX %t", show(x), show(y), eq, z, m)
		}
		if allKnown(a, b) {
			if e := equal(Eq(x, y), of("1")); e != eq || e != z || e != m {
				t.Errorf("%s and %s: Eq %t, CaseEq %t, MatchZ %t, MatchX %t", show(x), show(y), e, eq, z, m)
			}
		}
	}
}

// P4.12, and R3: nothing beyond the length of an argument is read or written.

// within is a vector whose bits lie within a longer slice of which the other
// elements are rest.
func within(a api.Vec, rest api.Bit) (part api.Vec, whole []api.Bit) {
	whole = slices.Repeat([]api.Bit{rest}, len(a.Bits)+140)
	copy(whole[5:], a.Bits)
	return api.Vec{Bits: whole[5 : 5+len(a.Bits)], Signed: a.Signed}, whole
}

// results are the results of all functions for three vectors.
func results(a, b, sel api.Vec) []api.Vec {
	var l []api.Vec
	for _, o := range slices.Concat(unaries(), forms()) {
		l = append(l, o.f(a))
	}
	for _, o := range slices.Concat(binaries(), cases(), joins()) {
		l = append(l, o.f(a, b))
	}
	three, _ := Concat(b, a, sel)
	n, _ := Int(a)
	fromInt, _ := FromInt(n, 64, true)
	unknown, _ := Unknown(len(b.Bits), a.Signed)
	l = append(l, Cond(sel, a, b), Cond(sel, b, a), three, fromInt, unknown)
	return append(l, one(api.Bit(Check(a))), truth(Same(a, b)), truth(Known(a)), truth(Leq(a, b)))
}

func copies(l []api.Vec) []api.Vec {
	var c []api.Vec
	for _, a := range l {
		c = append(c, api.Vec{Bits: slices.Clone(a.Bits), Signed: a.Signed})
	}
	return c
}

func same(l, m []api.Vec) bool { return slices.EqualFunc(l, m, equal) }

// spoil changes the bits of a slice.
func spoil(bits []api.Bit) {
	for i := range bits {
		bits[i] ^= 1
	}
}

func TestIndependence(t *testing.T) {
	l := slices.Concat(all(1), all(2)[5:9], chosen(64)[5:8], chosen(128)[14:], invalid()[:11])
	for _, a := range l {
		for _, b := range l {
			for _, sel := range []string{"0", "1", "x"} {
				for _, rest := range []api.Bit{api.B1, 9} {
					checkIndependent(t, a, b, of(sel), rest)
				}
			}
		}
	}
}

func checkIndependent(t *testing.T, x, y, sel api.Vec, rest api.Bit) {
	t.Helper()
	want := copies(results(copies([]api.Vec{x})[0], copies([]api.Vec{y})[0], sel))
	a, wholeA := within(x, rest)
	b, wholeB := within(y, rest)
	s, wholeS := within(sel, rest)
	wholes := [][]api.Bit{wholeA, wholeB, wholeS}
	before := [][]api.Bit{slices.Clone(wholeA), slices.Clone(wholeB), slices.Clone(wholeS)}
	unchanged := func() bool { return slices.EqualFunc(wholes, before, slices.Equal[[]api.Bit]) }
	got := results(a, b, s)
	if !same(got, want) {
		t.Errorf("the results for %s, %s depend on the elements beyond them", show(x), show(y))
	}
	if !unchanged() {
		t.Errorf("a function changed its argument %s or %s", show(x), show(y))
	}
	for i, r := range got {
		spoil(r.Bits[:cap(r.Bits)])
		spoil(want[i].Bits)
		if !unchanged() {
			t.Errorf("result %d for %s, %s shares memory with them", i, show(x), show(y))
		}
	}
	if !same(got, want) {
		t.Errorf("results for %s, %s share memory with one another", show(x), show(y))
	}
}

func TestConcatKeepsItsList(t *testing.T) {
	l := []api.Vec{of("01"), {}, of("s1x")}
	before := copies(l)
	got, _ := Concat(l...)
	spoil(got.Bits)
	if !same(l, before) {
		t.Error("Concat changed its arguments or shares memory with them")
	}
}

func TestOverlappingArguments(t *testing.T) {
	for _, width := range []int{1, 4, 64} {
		for _, whole := range chosen(width + 3) {
			for _, from := range []int{0, 1, 3} {
				a := api.Vec{Bits: whole.Bits[:width], Signed: whole.Signed}
				b := api.Vec{Bits: whole.Bits[from : from+width], Signed: whole.Signed}
				c := copies([]api.Vec{a, b})
				if got, want := results(a, b, a), results(c[0], c[1], copies(c)[0]); !same(got, want) {
					t.Errorf("the results for %s, %s change when they share memory", show(a), show(b))
				}
			}
		}
	}
}

// P1: equal arguments yield equal results, whatever was called before. R1 and R4:
// they are valid vectors.

func TestResultsRepeat(t *testing.T) {
	record := func() string {
		var s strings.Builder
		for _, a := range few() {
			for _, b := range few() {
				for _, r := range results(a, b, of("x")) {
					s.WriteString(show(r) + " ")
				}
				n, ok := Int(b)
				s.WriteString(strconv.FormatInt(n, 10) + strconv.FormatBool(ok))
			}
		}
		return s.String()
	}
	if record() != record() {
		t.Error("a second round of calls gives other results")
	}
}

func TestResultsAreValid(t *testing.T) {
	for _, o := range slices.Concat(binaries(), cases()) {
		for a, b := range pairs {
			if o.name != "Pow" || len(b.Bits) < 60 {
				if got := o.f(a, b); !valid(got) {
					t.Errorf("%s(%s, %s) = %s is invalid", o.name, show(a), show(b), show(got))
				}
			}
		}
	}
}
