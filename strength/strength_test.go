package strength

import (
	"testing"

	"netlab/api"
	"netlab/bit"
)

const (
	b0 = api.B0
	b1 = api.B1
	bx = api.BX
	bz = api.BZ
)

func to(lo, hi int8) Interval { return Interval{Lo: lo, Hi: hi} }

// valid are all valid intervals.
func valid() []Interval {
	var l []Interval
	for lo := int8(-7); lo <= 7; lo++ {
		for hi := lo; hi <= 7; hi++ {
			l = append(l, to(lo, hi))
		}
	}
	return l
}

// every are all values of the type: valid, exchanged and out of range.
func every() []Interval {
	var l []Interval
	for lo := -128; lo <= 127; lo++ {
		for hi := -128; hi <= 127; hi++ {
			l = append(l, to(int8(lo), int8(hi)))
		}
	}
	return l
}

// odd are intervals that are not valid.
func odd() []Interval {
	return []Interval{
		to(1, -1), to(7, -7), to(5, 3), to(-3, -5), to(0, -1), to(1, 0), to(-8, 7), to(-7, 8), to(-8, 8), to(8, -8),
		to(9, 9), to(-9, -9), to(8, 3), to(3, -9), to(127, 127), to(-128, -128), to(-128, 127), to(127, -128), to(-128, 0),
	}
}

// sub are the valid intervals that an interval contains.
func sub(a Interval) []Interval {
	var l []Interval
	for _, b := range valid() {
		if a.Lo <= b.Lo && b.Hi <= a.Hi {
			l = append(l, b)
		}
	}
	return l
}

// normal is the normalized interval, bound by bound.
func normal(a Interval) Interval {
	lo, hi := int(a.Lo), int(a.Hi)
	for lo < -7 {
		lo++
	}
	for lo > 7 {
		lo--
	}
	for hi < -7 {
		hi++
	}
	for hi > 7 {
		hi--
	}
	if lo > hi {
		lo, hi = hi, lo
	}
	return to(int8(lo), int8(hi))
}

// levels is a set of levels: element i stands for the level i - 7.
type levels [15]bool

func elements(a Interval) levels {
	var l levels
	for i := int(a.Lo); i <= int(a.Hi); i++ {
		l[i+7] = true
	}
	return l
}

// combined is the set of the levels that result from the elements of two sets, as
// S1 defines it for two levels.
func combined(a, b levels) levels {
	var c levels
	for i := range a {
		for j := range b {
			if !a[i] || !b[j] {
				continue
			}
			p, q := i-7, j-7
			switch {
			case p*p > q*q:
				c[i] = true
			case p*p < q*q:
				c[j] = true
			case p == q:
				c[i] = true
			default:
				for k := min(i, j); k <= max(i, j); k++ {
					c[k] = true
				}
			}
		}
	}
	return c
}

// P2.1

func TestValid(t *testing.T) {
	for _, a := range every() {
		want := -7 <= a.Lo && a.Lo <= a.Hi && a.Hi <= 7
		if got := Valid(a); got != want {
			t.Errorf("Valid(%d to %d) = %t", a.Lo, a.Hi, got)
		}
	}
}

func TestNorm(t *testing.T) {
	for _, a := range every() {
		if got := Norm(a); got != normal(a) {
			t.Errorf("Norm(%d to %d) = %d to %d", a.Lo, a.Hi, got.Lo, got.Hi)
		}
	}
	for _, x := range []struct{ a, want Interval }{
		{to(0, 0), to(0, 0)},
		{to(-7, 7), to(-7, 7)},
		{to(5, -3), to(-3, 5)},
		{to(-128, 127), to(-7, 7)},
		{to(127, -128), to(-7, 7)},
		{to(9, 3), to(3, 7)},
		{to(3, -9), to(-7, 3)},
		{to(8, 9), to(7, 7)},
		{to(-8, -9), to(-7, -7)},
	} {
		if got := Norm(x.a); got != x.want {
			t.Errorf("Norm(%d to %d) = %d to %d, want %d to %d", x.a.Lo, x.a.Hi, got.Lo, got.Hi, x.want.Lo, x.want.Hi)
		}
	}
}

func TestContains(t *testing.T) {
	for _, a := range append(valid(), odd()...) {
		l := elements(normal(a))
		for level := -600; level <= 600; level++ {
			want := -7 <= level && level <= 7 && l[level+7]
			if got := Contains(a, level); got != want {
				t.Errorf("Contains(%d to %d, %d) = %t", a.Lo, a.Hi, level, got)
			}
		}
	}
}

// P2.2

func TestDrive(t *testing.T) {
	for b := range 256 {
		for s0 := range 256 {
			for s1 := range 256 {
				lo, hi := int8(-min(s0, 7)), int8(min(s1, 7))
				want := to(lo, hi)
				switch api.Bit(b) {
				case b0:
					want = to(lo, lo)
				case b1:
					want = to(hi, hi)
				case bz:
					want = to(0, 0)
				}
				if got := Drive(api.Bit(b), uint8(s0), uint8(s1)); got != want {
					t.Fatalf("Drive(%d, %d, %d) = %d to %d, want %d to %d", b, s0, s1, got.Lo, got.Hi, want.Lo, want.Hi)
				}
			}
		}
	}
}

func TestDriveCases(t *testing.T) {
	for _, x := range []struct {
		b      api.Bit
		s0, s1 uint8
		want   Interval
	}{
		{b0, 6, 5, to(-6, -6)},
		{b1, 6, 5, to(5, 5)},
		{bx, 6, 5, to(-6, 5)},
		{bz, 6, 5, to(0, 0)},
		{4, 6, 5, to(-6, 5)},
		{255, 2, 1, to(-2, 1)},
		{b0, 0, 5, to(0, 0)},
		{b1, 5, 0, to(0, 0)},
		{bx, 0, 3, to(0, 3)},
		{bx, 3, 0, to(-3, 0)},
		{b0, 8, 1, to(-7, -7)},
		{b1, 1, 128, to(7, 7)},
		{bx, 255, 200, to(-7, 7)},
	} {
		if got := Drive(x.b, x.s0, x.s1); got != x.want {
			t.Errorf("Drive(%d, %d, %d) = %d to %d, want %d to %d", x.b, x.s0, x.s1, got.Lo, got.Hi, x.want.Lo, x.want.Hi)
		}
	}
}

// P2.3

func TestCombineNone(t *testing.T) {
	if got := Combine(); got != to(0, 0) {
		t.Errorf("Combine() = %d to %d", got.Lo, got.Hi)
	}
	if got := Combine([]Interval{}...); got != to(0, 0) {
		t.Errorf("Combine of an empty slice = %d to %d", got.Lo, got.Hi)
	}
}

func TestCombineOne(t *testing.T) {
	for _, a := range every() {
		if got := Combine(a); got != normal(a) {
			t.Errorf("Combine(%d to %d) = %d to %d", a.Lo, a.Hi, got.Lo, got.Hi)
		}
	}
}

func TestCombineCases(t *testing.T) {
	for _, x := range []struct {
		l    []Interval
		want Interval
	}{
		{[]Interval{to(5, 5), to(-5, -5)}, to(-5, 5)},
		{[]Interval{to(5, 5), to(-5, -5), to(6, 6)}, to(6, 6)},
		{[]Interval{to(3, 5), to(-4, -4)}, to(-4, 5)},
		{[]Interval{to(5, 5), to(-6, -6)}, to(-6, -6)},
		{[]Interval{to(4, 4), to(4, 4)}, to(4, 4)},
		{[]Interval{to(-2, 6), to(4, 4)}, to(4, 6)},
		{[]Interval{to(0, 3), to(0, 0)}, to(0, 3)},
		{[]Interval{to(0, 0), to(0, 0), to(0, 0)}, to(0, 0)},
		{[]Interval{to(1, 2), to(2, 3), to(3, 4), to(-4, -4), to(-1, 0)}, to(-4, 4)},
		{[]Interval{to(-7, -7), to(-6, 6), to(5, 5), to(1, 1)}, to(-7, -7)},
		{[]Interval{to(100, 100), to(-5, -5)}, to(7, 7)},
		{[]Interval{to(5, 3), to(-4, -4)}, to(-4, 5)},
	} {
		if got := Combine(x.l...); got != x.want {
			t.Errorf("Combine(%v) = %d to %d, want %d to %d", x.l, got.Lo, got.Hi, x.want.Lo, x.want.Hi)
		}
	}
}

func TestCombineThree(t *testing.T) {
	few := []Interval{to(0, 0), to(-7, 7), to(3, 5), to(-4, -4), to(-5, 5), to(6, 6), to(-6, -2), to(0, 2), to(-1, 0), to(9, -9)}
	for _, a := range few {
		for _, b := range few {
			for _, c := range few {
				want := combined(combined(elements(normal(a)), elements(normal(b))), elements(normal(c)))
				got := Combine(a, b, c)
				if !Valid(got) || elements(got) != want {
					t.Errorf("Combine(%v, %v, %v) = %d to %d", a, b, c, got.Lo, got.Hi)
				}
			}
		}
	}
}

func TestRead(t *testing.T) {
	for _, a := range every() {
		var low, zero, high bool
		for i, in := range elements(normal(a)) {
			low = low || in && i < 7
			zero = zero || in && i == 7
			high = high || in && i > 7
		}
		want := bx
		switch {
		case low && !zero && !high:
			want = b0
		case high && !zero && !low:
			want = b1
		case zero && !low && !high:
			want = bz
		}
		if got := Read(a); got != want {
			t.Errorf("Read(%d to %d) = %d, want %d", a.Lo, a.Hi, got, want)
		}
	}
}

func TestReadCases(t *testing.T) {
	for _, x := range []struct {
		a    Interval
		want api.Bit
	}{
		{to(0, 0), bz}, {to(0, 3), bx}, {to(-3, 0), bx}, {to(1, 3), b1}, {to(1, 1), b1}, {to(-7, -1), b0}, {to(-1, -1), b0},
		{to(-5, 5), bx}, {to(3, 1), b1}, {to(1, -1), bx}, {to(127, 127), b1}, {to(-128, -8), b0},
	} {
		if got := Read(x.a); got != x.want {
			t.Errorf("Read(%d to %d) = %d, want %d", x.a.Lo, x.a.Hi, got, x.want)
		}
	}
}

// P2.4

func TestName(t *testing.T) {
	zeros := []string{"highz0", "small0", "medium0", "weak0", "large0", "pull0", "strong0", "supply0"}
	ones := []string{"highz1", "small1", "medium1", "weak1", "large1", "pull1", "strong1", "supply1"}
	for s := range 256 {
		if got := Name(uint8(s), false); got != zeros[min(s, 7)] {
			t.Errorf("Name(%d, false) = %q", s, got)
		}
		if got := Name(uint8(s), true); got != ones[min(s, 7)] {
			t.Errorf("Name(%d, true) = %q", s, got)
		}
	}
}

func TestParse(t *testing.T) {
	for i, word := range []string{"highz", "small", "medium", "weak", "large", "pull", "strong", "supply"} {
		if s, one, ok := Parse(word + "0"); s != uint8(i) || one || !ok {
			t.Errorf("Parse(%q) = %d, %t, %t", word+"0", s, one, ok)
		}
		if s, one, ok := Parse(word + "1"); s != uint8(i) || !one || !ok {
			t.Errorf("Parse(%q) = %d, %t, %t", word+"1", s, one, ok)
		}
		for _, name := range []string{word, word + "2", word + "x", word + "z", word + "00", word + "01", word + "10", word + "1 ", " " + word + "1", "0" + word, word + "\x00", word + "\xff", word + "²", word[1:] + "1", word[:len(word)-1] + "1", word + word + "1"} {
			checkNoName(t, name)
		}
	}
	for _, name := range []string{"", "0", "1", "7", "Strong1", "STRONG1", "strongl", "strong\n1", "hiz1", "highz", "tri0", "supply", "wire", "weak0,weak1"} {
		checkNoName(t, name)
	}
}

func checkNoName(t *testing.T, name string) {
	t.Helper()
	if s, one, ok := Parse(name); s != 0 || one || ok {
		t.Errorf("Parse(%q) = %d, %t, %t", name, s, one, ok)
	}
}

// P2.5

func TestCombinationElements(t *testing.T) {
	for _, a := range valid() {
		for _, b := range valid() {
			want := combined(elements(a), elements(b))
			got := Combine(a, b)
			if !Valid(got) {
				t.Fatalf("Combine(%v, %v) = %v is not valid", a, b, got)
			}
			for level := -7; level <= 7; level++ {
				if Contains(got, level) != want[level+7] {
					t.Errorf("Combine(%v, %v) = %v, which is wrong about the level %d", a, b, got, level)
				}
			}
		}
	}
}

func TestCombinationNormalizes(t *testing.T) {
	for _, a := range odd() {
		for _, b := range append(valid(), odd()...) {
			want := combined(elements(normal(a)), elements(normal(b)))
			if got := Combine(a, b); !Valid(got) || elements(got) != want {
				t.Errorf("Combine(%v, %v) = %v", a, b, got)
			}
			if got := Combine(b, a); !Valid(got) || elements(got) != want {
				t.Errorf("Combine(%v, %v) = %v", b, a, got)
			}
		}
	}
}

// P2.6

func TestCombineCommutative(t *testing.T) {
	for _, a := range append(valid(), odd()...) {
		for _, b := range append(valid(), odd()...) {
			if Combine(a, b) != Combine(b, a) {
				t.Errorf("Combine(%v, %v) = %v, but exchanged %v", a, b, Combine(a, b), Combine(b, a))
			}
		}
	}
}

func TestCombineAssociative(t *testing.T) {
	l := valid()
	for _, a := range l {
		for _, b := range l {
			ab := Combine(a, b)
			for _, c := range l {
				all := Combine(a, b, c)
				if Combine(ab, c) != all || Combine(a, Combine(b, c)) != all {
					t.Fatalf("Combine(%v, %v, %v) = %v depends on the grouping", a, b, c, all)
				}
			}
		}
	}
}

func TestCombineOrderOfMany(t *testing.T) {
	l := []Interval{to(-6, 5), to(0, 0), to(3, 3), to(-128, -4), to(5, 2), to(-1, 1)}
	want := Combine(l...)
	for range l {
		l = append(l[1:], l[0])
		if got := Combine(l...); got != want {
			t.Errorf("Combine(%v) = %v, want %v", l, got, want)
		}
		l[1], l[4] = l[4], l[1]
		if got := Combine(l...); got != want {
			t.Errorf("Combine(%v) = %v, want %v", l, got, want)
		}
	}
}

func TestCombineNeutral(t *testing.T) {
	for _, a := range every() {
		if got := Combine(a, to(0, 0)); got != normal(a) {
			t.Errorf("Combine(%v, 0 to 0) = %v", a, got)
		}
		if got := Combine(to(0, 0), a); got != normal(a) {
			t.Errorf("Combine(0 to 0, %v) = %v", a, got)
		}
	}
}

// P2.7

func TestDominance(t *testing.T) {
	pairs := 0
	for _, a := range valid() {
		for _, b := range valid() {
			if weakest(a) <= greatest(b) {
				continue
			}
			pairs++
			if Combine(a, b) != a || Combine(b, a) != a {
				t.Errorf("%v does not win over %v: %v", a, b, Combine(a, b))
			}
		}
	}
	if pairs == 0 {
		t.Error("no interval dominates another one")
	}
}

// weakest is the least absolute value of a level of an interval.
func weakest(a Interval) int {
	w := 7
	for i := int(a.Lo); i <= int(a.Hi); i++ {
		w = min(w, max(i, -i))
	}
	return w
}

// greatest is the greatest absolute value of a level of an interval.
func greatest(a Interval) int {
	g := 0
	for i := int(a.Lo); i <= int(a.Hi); i++ {
		g = max(g, max(i, -i))
	}
	return g
}

// P2.8

func TestCombineMonotone(t *testing.T) {
	l := valid()
	for _, a := range l {
		for _, c := range sub(a) {
			for _, b := range l {
				before, after := Combine(a, b), Combine(c, b)
				if after.Lo < before.Lo || after.Hi > before.Hi {
					t.Errorf("Combine(%v, %v) = %v is not contained in Combine(%v, %v) = %v", c, b, after, a, b, before)
				}
				before, after = Combine(b, a), Combine(b, c)
				if after.Lo < before.Lo || after.Hi > before.Hi {
					t.Errorf("Combine(%v, %v) = %v is not contained in Combine(%v, %v) = %v", b, c, after, b, a, before)
				}
			}
		}
	}
}

func TestReadMonotone(t *testing.T) {
	for _, a := range valid() {
		for _, c := range sub(a) {
			if c != to(0, 0) && !bit.Leq(Read(a), Read(c)) {
				t.Errorf("%v is read as %d, but the part %v as %d", a, Read(a), c, Read(c))
			}
		}
	}
}

// P2.9

func TestDriverIsRead(t *testing.T) {
	for b := range 256 {
		for s0 := 1; s0 < 256; s0++ {
			for s1 := 1; s1 < 256; s1++ {
				got := Read(Drive(api.Bit(b), uint8(s0), uint8(s1)))
				if got > bz || !bit.Same(got, api.Bit(b)) {
					t.Fatalf("a driver of %d with the strengths %d and %d is read as %d", b, s0, s1, got)
				}
			}
		}
	}
}

func TestUnknownDriver(t *testing.T) {
	for _, x := range []api.Bit{bx, 4, 255} {
		for s0 := range 256 {
			for s1 := range 256 {
				unknown := Drive(x, uint8(s0), uint8(s1))
				zero, one := Drive(b0, uint8(s0), uint8(s1)), Drive(b1, uint8(s0), uint8(s1))
				for level := -7; level <= 7; level++ {
					if (Contains(zero, level) || Contains(one, level)) && !Contains(unknown, level) {
						t.Fatalf("Drive(%d, %d, %d) = %v lacks the level %d", x, s0, s1, unknown, level)
					}
				}
			}
		}
	}
}

// P2.10

func TestNamesRoundTrip(t *testing.T) {
	for s := range 256 {
		for _, digit := range []bool{false, true} {
			got, one, ok := Parse(Name(uint8(s), digit))
			if got != uint8(min(s, 7)) || one != digit || !ok {
				t.Errorf("Parse(Name(%d, %t)) = %d, %t, %t", s, digit, got, one, ok)
			}
		}
	}
}

// R3: only the elements within the length are read, and none is written.

func TestArgumentsStay(t *testing.T) {
	l := []Interval{to(5, -3), to(127, -128), to(-9, -9), to(6, 6)}
	want := [4]Interval(l)
	if got := Combine(l[:1]...); got != to(-3, 5) {
		t.Errorf("Combine of the first of several intervals = %v", got)
	}
	Combine(l...)
	if [4]Interval(l) != want {
		t.Errorf("Combine changed its arguments to %v", l)
	}
}

// P1: equal arguments yield equal results, whatever was called before.

func TestResultsRepeat(t *testing.T) {
	record := func() string {
		var r []byte
		for _, a := range append(valid(), odd()...) {
			for _, b := range odd() {
				c := Combine(a, b, a)
				r = append(r, byte(c.Lo), byte(c.Hi))
			}
			s := uint8(a.Lo)
			d := Drive(api.Bit(a.Hi), s, uint8(a.Hi))
			r = append(r, byte(Norm(a).Lo), byte(Read(a)), byte(d.Lo), byte(d.Hi))
			r = append(r, Name(s, Valid(a))+Name(s, Contains(a, 1))...)
		}
		return string(r)
	}
	if record() != record() {
		t.Error("a second round of calls gives other results")
	}
}

// The examples of the chapter, and example 7 of DOC.md.

func TestExamples(t *testing.T) {
	both := Combine(to(5, 5), to(-5, -5))
	if both != to(-5, 5) || Read(both) != bx {
		t.Errorf("5 and -5 combine to %v, read as %d", both, Read(both))
	}
	if won := Combine(both, to(6, 6)); won != to(6, 6) || Read(won) != b1 {
		t.Errorf("with 6 they combine to %v, read as %d", won, Read(won))
	}
	if Name(5, true) != "pull1" {
		t.Errorf("Name(5, true) = %q", Name(5, true))
	}
	if s, one, ok := Parse("highz0"); s != 0 || one || !ok {
		t.Errorf("Parse of highz0 = %d, %t, %t", s, one, ok)
	}
	if got := Read(Combine(Drive(b1, 5, 5), Drive(b0, 6, 6))); got != b0 {
		t.Errorf("a pulled 1 and a strong 0 are read as %d", got)
	}
	if got := Read(Combine(Drive(b1, 6, 6), Drive(b0, 6, 6))); got != bx {
		t.Errorf("a strong 1 and a strong 0 are read as %d", got)
	}
}
