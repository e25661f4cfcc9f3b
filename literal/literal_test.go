package literal

import (
	"math/big"
	"math/rand"
	"slices"
	"strconv"
	"strings"
	"testing"

	"netlab/api"
)

const bases = "bodh"

// texts are all strings of the given alphabet with at most that many characters.
func texts(alphabet string, most int) []string {
	l := []string{""}
	for first := 0; most > 0; most-- {
		last := len(l)
		for _, s := range l[first:last] {
			for i := range len(alphabet) {
				l = append(l, s+alphabet[i:i+1])
			}
		}
		first = last
	}
	return l
}

// vectors are all vectors of at most that many bits, as texts.
func vectors(most int) []string {
	var l []string
	for _, s := range texts("01xz", most) {
		if s != "" {
			l = append(l, s, "s"+s)
		}
	}
	return l
}

// wideVectors are vectors at the bounds of digits, machine words and MaxWidth.
func wideVectors() []string {
	random := rand.New(rand.NewSource(5))
	var l []string
	for _, width := range []int{7, 8, 9, 31, 32, 33, 59, 60, 61, 63, 64, 65, 119, 120, 121, 126, 127, 128} {
		for _, alphabet := range []string{"0", "1", "x", "z", "01", "001", "01x", "01z", "xz", "01xz", "000x", "111z"} {
			s := ""
			for range width {
				s += string(alphabet[random.Intn(len(alphabet))])
			}
			for _, first := range []string{s[:1], "0", "1", "x", "z"} {
				l = append(l, first+s[1:], "s"+first+s[1:])
			}
			l = append(l, strings.Repeat(s[:1], width-1)+s[1:2], "s1"+strings.Repeat("0", width-1))
		}
	}
	return append(l, numbers()...)
}

// numbers are vectors of 128 bits whose decimal digits have long sequences of zeros
// and nines, where parts of the number begin.
func numbers() []string {
	var l []string
	for exponent := range 39 {
		power := new(big.Int).Exp(big.NewInt(10), big.NewInt(int64(exponent)), nil)
		for _, offset := range []int64{-1, 0, 1} {
			bits := binary(new(big.Int).Add(power, big.NewInt(offset)), 128)
			minus := binary(new(big.Int).Sub(big.NewInt(offset), power), 128)
			l = append(l, bits, "s"+bits, minus, "s"+minus)
		}
	}
	return l
}

// literals are valid literals of all kinds.
func literals() []string {
	l := []string{"0", "1", "25", "007", "1_0", "2147483647", "000_2147483647"}
	for _, size := range []string{"", "1", "2", "3", "4", "7", "12", "32", "33", "64", "65", "0128"} {
		for _, tail := range []string{"b0", "b1", "bx", "b?", "b1xz0", "bz1", "o7", "o0", "ox", "oZ70", "o17_6x", "d0", "d9",
			"d1_0", "dx", "d?", "d340282366920938463463374607431768211455", "hF", "hx", "hz", "h?0", "hdeadBEEF", "hX_z1", "h0_1_x"} {
			l = append(l, size+"'"+tail, size+"'s"+tail, size+"'S"+strings.ToUpper(tail))
		}
	}
	return l
}

func wantParse(t *testing.T, g grammar, s string, at int) {
	t.Helper()
	if got, want := parse(s, at), g.parse(s, at); got != want {
		t.Fatalf("Parse(%.300q, %d) = %v, want %v", s, at, got, want)
	}
}

// P5.1: the examples of the chapter.
func TestParseExamples(t *testing.T) {
	for _, x := range []struct{ s, bits string }{
		{"25", "s" + strings.Repeat("0", 27) + "11001"},
		{"8'hF", "00001111"},
		{"4'bx1", "xxx1"},
		{"6'sb1_01", "s000101"},
		{"3'd9", "001"},
		{"4'dz", "zzzz"},
		{"'hz", strings.Repeat("z", 32)},
		{"8'hxz1", "zzzz0001"},
	} {
		if got, want := parse(x.s, 0), (result{x.bits, len(x.s), api.OK}); got != want {
			t.Errorf("Parse(%q) = %v, want %v", x.s, got, want)
		}
	}
	for _, x := range []struct {
		s string
		e api.Errno
	}{{"4'b12", api.ErrForm}, {"0'b1", api.ErrWidth}, {"4'", api.ErrShort}, {"9999999999", api.ErrLong}, {"12ab", api.ErrForm}} {
		if got, want := parse(x.s, 0), (result{e: x.e}); got != want {
			t.Errorf("Parse(%q) = %v, want %v", x.s, got, want)
		}
	}
}

// P5.1, the terms and the errors: all short texts from every offset, and all short
// texts after the beginning of a based literal.
func TestParseShortTexts(t *testing.T) {
	g := newGrammar()
	for _, s := range texts("0189_'sbodhxzfgSDXZ?F +\x00\xff", 3) {
		for at := -1; at <= len(s)+1; at++ {
			wantParse(t, g, s, at)
		}
	}
	for _, start := range []string{"'", "3'", "9's", "'b", "4'sb", "11'o", "'so", "4'd", "'sd", "40's", "7'h", "128'H"} {
		for _, s := range texts("012789aAfgxXzZ?_'sbd ", 3) {
			wantParse(t, g, start+s, 0)
		}
	}
	for _, s := range texts("01_'bx?", 6) {
		wantParse(t, g, s, 0)
	}
}

// P5.1: every byte at each place of a literal.
func TestParseBytes(t *testing.T) {
	g := newGrammar()
	for c := range 256 {
		b := string([]byte{byte(c)})
		for _, s := range []string{b, "1" + b, b + "'b1", "4" + b + "'b1", "4'" + b, "4'" + b + "1", "4's" + b + "1", "4'b" + b, "4'o" + b,
			"4'd" + b, "4'h" + b, "4'b1" + b, "4'o1" + b, "4'd1" + b, "4'h1" + b, "4'dx" + b, "4'hx" + b + "1"} {
			wantParse(t, g, s, 0)
		}
	}
}

// P5.1: literals with many digits, for every width.
func TestParseLongDigits(t *testing.T) {
	g := newGrammar()
	random := rand.New(rand.NewSource(51))
	alphabets := []string{"b01", "b01xz?XZ", "o01234567", "o01234567xz", "d0123456789", "h0123456789abcdefABCDEF", "h0123456789abcdefxz?_"}
	for width := 1; width <= api.MaxWidth; width++ {
		for _, alphabet := range alphabets {
			for _, count := range []int{1, 2, 1 + width/4, 1 + width/3, 1 + width, 255, 256} {
				s := alphabet[1:2]
				for len(s) < count {
					s += string(alphabet[1+random.Intn(len(alphabet)-1)])
				}
				for _, first := range []string{"", "x", "1"} {
					wantParse(t, g, strconv.Itoa(width)+"'"+alphabet[:1]+first+s[len(first):], 0)
				}
			}
		}
	}
}

// P5.1, ErrLong: a plain literal is at most 2147483647, whatever its length.
func TestParsePlainBound(t *testing.T) {
	for _, x := range []struct {
		s    string
		long bool
	}{
		{"2147483646", false}, {"2147483647", false}, {"2147483648", true}, {"2_147_483_647_", false}, {"2_147_483_648", true},
		{"4294967295", true}, {"4294967296", true}, {"4294967297", true}, {"9223372036854775807", true}, {"18446744073709551617", true},
		{strings.Repeat("0", 60000) + "2147483647", false}, {"1" + strings.Repeat("0", 60000), true}, {"1" + strings.Repeat("_", 60000), false},
	} {
		want := result{e: api.ErrLong}
		if !x.long {
			n := number(strings.ReplaceAll(x.s, "_", ""))
			want = result{"s" + binary(n, 32), len(x.s), api.OK}
		}
		if got := parse(x.s, 0); got != want {
			t.Errorf("Parse(%.30q..) of %d bytes = %v, want %v", x.s, len(x.s), got, want)
		}
	}
}

// ErrWidth: sizes around the bounds, also those that exceed machine words.
func TestParseSizes(t *testing.T) {
	g := newGrammar()
	for n := range 300 {
		wantParse(t, g, strconv.Itoa(n)+"'b1", 0)
	}
	for _, size := range []string{"00", "0_", "1_28", "12_9", "0000128", "4294967297", "18446744073709551617", "9223372036854775808",
		strings.Repeat("0", 5000) + "8", "8" + strings.Repeat("0", 5000), "1" + strings.Repeat("_", 5000)} {
		wantParse(t, g, size+"'b1", 0)
	}
}

// ErrLong: a based literal has at most 256 digits, not counting underscores.
func TestParseDigitBound(t *testing.T) {
	for _, base := range []string{"b", "o", "d", "h", "sb", "SD"} {
		for _, x := range []struct {
			digits string
			e      api.Errno
		}{
			{strings.Repeat("0", 256), api.OK},
			{strings.Repeat("1", 256), api.OK},
			{strings.Repeat("0", 257), api.ErrLong},
			{strings.Repeat("1", 257), api.ErrLong},
			{strings.Repeat("1", 60000), api.ErrLong},
			{strings.Repeat("1_", 256), api.OK},
			{strings.Repeat("1_", 257), api.ErrLong},
			{"1" + strings.Repeat("_", 60000), api.OK},
			{strings.Repeat("1", 257) + "g", api.ErrForm},
		} {
			s := "8'" + base + x.digits
			if _, next, e := Parse(s, 0); e != x.e || e == api.OK && next != len(s) || e != api.OK && next != 0 {
				t.Errorf("Parse(%.20q..) of %d bytes: offset %d, error %d, want error %d", s, len(s), next, e, x.e)
			}
		}
	}
	wantParse(t, newGrammar(), "8'b"+strings.Repeat("x", 257), 0)
	wantParse(t, newGrammar(), "8'd"+strings.Repeat("x", 257), 0)
}

// The order of the errors of Parse: of two that apply, the first one is returned.
func TestParseErrorOrder(t *testing.T) {
	tooLong := strings.Repeat("1", api.MaxSource+1)
	digits := strings.Repeat("1", 257)
	for _, x := range []struct {
		name, s string
		at      int
		e       api.Errno
	}{
		{"text before offset", tooLong, -1, api.ErrLong},
		{"text before offset", tooLong, len(tooLong) + 1, api.ErrLong},
		{"text before end", tooLong, len(tooLong), api.ErrLong},
		{"text before form", strings.Repeat("+", api.MaxSource+1), 0, api.ErrLong},
		{"longest text", tooLong[1:], api.MaxSource, api.ErrShort},
		{"longest text", tooLong[1:], api.MaxSource - 1, api.OK},
		{"offset", "1", -1, api.ErrArg},
		{"offset", "1", 2, api.ErrArg},
		{"offset", "", 1, api.ErrArg},
		{"offset", "", -1 << 63, api.ErrArg},
		{"offset", "1", 1<<63 - 1, api.ErrArg},
		{"end", "1", 1, api.ErrShort},
		{"form before width", "0a'b1", 0, api.ErrForm},
		{"form before short", "a'", 0, api.ErrForm},
		{"form before short", "_'", 0, api.ErrForm},
		{"form before long", "9999999999a", 0, api.ErrForm},
		{"width before short", "129'", 0, api.ErrWidth},
		{"width before form", "129'q", 0, api.ErrWidth},
		{"width before long", "0'b" + digits, 0, api.ErrWidth},
		{"width of a large number", "9999999999'b1", 0, api.ErrWidth},
		{"short", "'", 0, api.ErrShort},
		{"the end of the text only", "4' b1", 0, api.ErrForm},
		{"the end of the text only", "4''", 0, api.ErrForm},
		{"form before long", "4'b" + digits + "2", 0, api.ErrForm},
		{"form before long", "4'd" + digits + "x", 0, api.ErrForm},
	} {
		v, next, e := Parse(x.s, x.at)
		if e != x.e {
			t.Errorf("%s: Parse(%.20q.., %d) has error %d, want %d", x.name, x.s, x.at, e, x.e)
		}
		if e != api.OK && (v.Bits != nil || v.Signed || next != 0) {
			t.Errorf("%s: Parse(%.20q.., %d) returns %v and %d with an error", x.name, x.s, x.at, v, next)
		}
	}
}

// P5.3 and the example of the chapter: all short vectors, and chosen wide ones.
func TestDigits(t *testing.T) {
	for base, want := range map[byte]string{'b': "1x01", 'h': "X", 'd': "X"} {
		if got, e := Digits(of("1x01"), base); got != want || e != api.OK {
			t.Errorf("Digits(1x01, %c) = %q, %d, want %q", base, got, e, want)
		}
	}
	for _, v := range append(vectors(6), wideVectors()...) {
		for _, base := range []byte(bases) {
			if got, e := Digits(of(v), base); got != digits(v, base) || e != api.OK {
				t.Fatalf("Digits(%s, %c) = %q, %d, want %q", v, base, got, e, digits(v, base))
			}
		}
	}
}

// P5.2, P5.4: Format returns a literal exactly where there is one, and parsing it
// returns the vector and the length of the text.
func TestFormatRoundTrip(t *testing.T) {
	if s, e := Format(of("1x01"), 'h'); s != "" || e != api.ErrNone {
		t.Errorf("Format(1x01, h) = %q, %d, want ErrNone", s, e)
	}
	for _, v := range append(vectors(6), wideVectors()...) {
		for _, base := range []byte(bases) {
			s, e := Format(of(v), base)
			if want, wantE := format(v, base); s != want || e != wantE {
				t.Fatalf("Format(%s, %c) = %q, %d, want %q, %d", v, base, s, e, want, wantE)
			}
			if base == 'b' && e != api.OK {
				t.Fatalf("Format(%s, b): error %d", v, e)
			}
			if e == api.OK && parse(s, 0) != (result{v, len(s), api.OK}) {
				t.Fatalf("Parse(%q) = %v, want %s", s, parse(s, 0), v)
			}
		}
	}
}

// The errors of Format and Digits, and their order.
func TestFormatErrors(t *testing.T) {
	bad := of("01")
	bad.Bits[1] = api.BZ + 1
	long := api.Vec{Bits: make([]api.Bit, api.MaxWidth+1)}
	for _, x := range []struct {
		v    api.Vec
		base byte
		e    api.Errno
	}{
		{api.Vec{}, 'b', api.ErrShort}, {api.Vec{Signed: true}, 'd', api.ErrShort}, {long, 'o', api.ErrLong}, {bad, 'h', api.ErrArg},
		{api.Vec{}, 'q', api.ErrShort}, {long, 0, api.ErrLong}, {bad, 'B', api.ErrArg},
	} {
		wantTextError(t, x.v, x.base, x.e, x.e)
	}
	for base := range 256 {
		if !strings.ContainsRune(bases, rune(base)) {
			wantTextError(t, of("1"), byte(base), api.ErrKind, api.ErrKind)
			wantTextError(t, of("s1x"), byte(base), api.ErrKind, api.ErrKind)
		}
	}
	wantTextError(t, of("s11"), 'd', api.ErrNone, api.OK)
	wantTextError(t, of("1x"), 'o', api.ErrNone, api.OK)
}

// wantTextError checks the errors of Format and of Digits.
func wantTextError(t *testing.T, v api.Vec, base byte, format, digits api.Errno) {
	t.Helper()
	if s, e := Format(v, base); e != format || s != "" {
		t.Errorf("Format(%v, %q) = %q, %d, want error %d", v, base, s, e, format)
	}
	if s, e := Digits(v, base); e != digits || (e == api.OK) == (s == "") {
		t.Errorf("Digits(%v, %q) = %q, %d, want error %d", v, base, s, e, digits)
	}
}

// P5.5: formatting a parsed vector in base 2 and parsing it again returns it.
func TestCanonicalForm(t *testing.T) {
	for _, s := range literals() {
		v, _, e := Parse(s, 0)
		if e != api.OK {
			t.Fatalf("Parse(%q): error %d", s, e)
		}
		text, e := Format(v, 'b')
		if got, want := parse(text, 0), (result{show(v), len(text), api.OK}); got != want || e != api.OK {
			t.Errorf("%q is %s; Format %q, %d; Parse %v", s, show(v), text, e, got)
		}
	}
}

// P5.6: underscores after a digit change only the offset.
func TestUnderscores(t *testing.T) {
	for _, s := range literals() {
		want := parse(s, 0)
		for i := range len(s) {
			head, tail := s[:i+1], s[i+1:]
			if strings.HasSuffix(head, "'") || strings.HasSuffix(head[:i], "'") || strings.HasSuffix(strings.ToLower(head[:i]), "'s") {
				continue // An apostrophe, the sign or the base.
			}
			for count := 1; count <= 3; count++ {
				got := parse(head+strings.Repeat("_", count)+tail, 0)
				if got != (result{want.bits, want.next + count, want.e}) {
					t.Fatalf("%d underscores after %q in %q: %v, without %v", count, head, s, got, want)
				}
			}
		}
	}
}

// P5.7: what precedes a literal has no effect, nor what follows it unless that is a
// letter, digit, underscore, apostrophe or question mark.
func TestContext(t *testing.T) {
	part := newGrammar().rest
	for _, s := range literals() {
		want := parse(s, 0)
		for c := range 256 {
			b := string([]byte{byte(c)})
			got := parse(b+s, 1)
			if got != (result{want.bits, want.next + 1, want.e}) {
				t.Fatalf("%q after %q: %v, alone %v", s, b, got, want)
			}
			if b != "'" && part.FindString(b) == "" && parse(s+b+s, 0) != want {
				t.Fatalf("%q before %q: %v, alone %v", s, b, parse(s+b+s, 0), want)
			}
		}
		for _, before := range []string{"8'b", "12", "4'", "x_", "é", "8'hxz1 "} {
			if got := parse(before+s, len(before)); got != (result{want.bits, want.next + len(before), want.e}) {
				t.Fatalf("%q after %q: %v, alone %v", s, before, got, want)
			}
		}
	}
}

// P5.8: a smaller size denotes the same bits, shortened.
func TestSmallerSizes(t *testing.T) {
	for _, tail := range []string{"b101101", "sb0", "o7", "so12345670123456701234567", "d0", "d9", "sd123456789012345678901234567890123456789012",
		"hf", "h8000_0000_0000_0000", "sh0123456789abcdef0123456789abcdef01"} {
		widest := parse("128'"+tail, 0)
		bits, signed := strings.CutPrefix(widest.bits, "s")
		for width := 1; width < 128; width++ {
			got := parse(strconv.Itoa(width)+"'"+tail, 0)
			want := bits[128-width:]
			if signed {
				want = "s" + want
			}
			if got.bits != want || got.e != api.OK {
				t.Fatalf("%d'%s is %s, want %s", width, tail, got.bits, want)
			}
		}
	}
}

// P5.9, R3: results may be overwritten, and arguments are neither modified nor read
// beyond their length.
func TestIndependence(t *testing.T) {
	for _, s := range literals() {
		first, _, _ := Parse(s, 0)
		want := show(first)
		second, _, _ := Parse(s, 0)
		for i := range cap(first.Bits) {
			first.Bits[:cap(first.Bits)][i] = api.BZ + 1
		}
		if got := show(second); got != want {
			t.Fatalf("Parse(%q) = %s after the first result was overwritten, want %s", s, got, want)
		}
		if third, _, _ := Parse(s, 0); show(third) != want {
			t.Fatalf("Parse(%q) = %s after the first result was overwritten, want %s", s, show(third), want)
		}
	}
	for _, s := range append(vectors(4), wideVectors()...) {
		whole := append(of(s).Bits, api.BX, api.BZ+1, api.B1)
		before := slices.Clone(whole)
		v := api.Vec{Bits: whole[:len(whole)-3], Signed: s[0] == 's'}
		for _, base := range []byte(bases) {
			if got, _ := Digits(v, base); got != digits(s, base) {
				t.Fatalf("Digits(%s, %c) with spare capacity = %q", s, base, got)
			}
			Format(v, base)
		}
		if !slices.Equal(whole, before) {
			t.Fatalf("Format or Digits changed %s to %v", s, whole)
		}
	}
}
