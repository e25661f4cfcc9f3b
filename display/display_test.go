package display

import (
	"math/rand"
	"slices"
	"strconv"
	"strings"
	"testing"

	"netlab/api"
	"netlab/literal"
	"netlab/vec"
)

const letters = "bodhxcstBODHXCST"

// minima are minimum widths; the first one is none.
var minima = []string{"", "0", "1", "2", "3", "4", "5", "9", "00", "000", "001", "07", "10", "19", "20", "21", "38", "39", "40", "41",
	"042", "43", "44", "99", "100", "127", "128", "129", "999"}

// texts are all strings of the given alphabet with at most that many characters.
func texts(alphabet string, most int) []string {
	l := []string{""}
	for first := 0; most > 0; most-- {
		last := len(l)
		for _, s := range l[first:last] {
			for i := range len(alphabet) {
				l = append(l, s+alphabet[i:i+1])
			}
		}
		first = last
	}
	return l
}

// vectors are all vectors of at most that many bits, as texts.
func vectors(alphabet string, most int) []string {
	var l []string
	for _, s := range texts(alphabet, most) {
		if s != "" {
			l = append(l, s, "s"+s)
		}
	}
	return l
}

// wideVectors are vectors at the bounds of digits, bytes, machine words and MaxWidth.
func wideVectors() []string {
	random := rand.New(rand.NewSource(6))
	var l []string
	for _, width := range []int{6, 7, 8, 9, 10, 11, 12, 13, 15, 16, 17, 23, 24, 25, 31, 32, 33, 63, 64, 65, 119, 120, 121, 127, 128} {
		for _, alphabet := range []string{"0", "1", "x", "z", "01", "0001", "01xz", "0001xz"} {
			s := ""
			for range width {
				s += string(alphabet[random.Intn(len(alphabet))])
			}
			for _, v := range []string{s, "0" + s[1:], "1" + s[1:], strings.Repeat("0", width/2) + s[width/2:], s[:width/2] + strings.Repeat("0", width-width/2)} {
				l = append(l, v, "s"+v)
			}
		}
	}
	return l
}

func wantFormat(t *testing.T, f string, args []string, time int64, want string) {
	t.Helper()
	if got, e := Format(f, all(args), time); got != want || e != api.OK {
		t.Fatalf("Format(%q, %v, %d) = %q, %d, want %q", f, args, time, got, e, want)
	}
}

func wantError(t *testing.T, name, f string, args []api.Vec, time int64, want api.Errno) {
	t.Helper()
	if got, e := Format(f, args, time); got != "" || e != want {
		t.Errorf("%s: Format(%.40q, %d arguments, %d) = %.40q, %d, want error %d", name, f, len(args), time, got, e, want)
	}
}

// The examples of the chapter.
func TestExamples(t *testing.T) {
	wantFormat(t, "a=%d b=%b", []string{"0101", "1x"}, 0, "a= 5 b=1x")
	wantFormat(t, "%0d %4h %0h %o", []string{"s11111101", "00001111", "00001111", "xxxxx1"}, 0, "-3 000f f xX")
	wantFormat(t, "%t|%0t%%", nil, 25, strings.Repeat(" ", 18)+"25|25%")
	wantFormat(t, "%s!", []string{"000000000100100001101001"}, 0, "Hi!")
	wantError(t, "example", "%q", nil, 0, api.ErrForm)
	wantError(t, "example", "%d", nil, 0, api.ErrShort)
	wantError(t, "example", "x", all([]string{"0"}), 0, api.ErrMore)
}

// P6.2: outputs that are written down here, not computed by the model.
func TestConversions(t *testing.T) {
	for _, x := range []struct{ f, v, want string }{
		{"%b", "0x1z", "0x1z"}, {"%0b", "00x1", "x1"}, {"%0b", "0000", "0"}, {"%1b", "0000", "0"}, {"%3b", "0001", "001"}, {"%6b", "0001", "000001"},
		{"%o", "0001111", "017"}, {"%0o", "0001111", "17"}, {"%4o", "zzz000", "00z0"}, {"%o", "s111", "7"},
		{"%h", "000011110000", "0f0"}, {"%0h", "000011110000", "f0"}, {"%2X", "000011110000", "f0"}, {"%x", "x", "x"}, {"%H", "1z", "Z"},
		{"%d", "0", "0"}, {"%d", "s0", " 0"}, {"%d", "s1", "-1"}, {"%d", "s0111", " 7"}, {"%d", "s1000", "-8"}, {"%d", "s00001", "  1"},
		{"%d", "00000001", "  1"}, {"%d", "s00000001", "   1"}, {"%d", "xxxx", " x"}, {"%d", "10zzzzzz", "  Z"}, {"%d", "1xz", "X"},
		{"%0d", "00000001", "1"}, {"%5d", "s1111", "   -1"}, {"%1d", "1111111", "127"}, {"%2d", "zzz", " z"},
		{"%c", "01000001", "A"}, {"%c", "1101000001", "A"}, {"%5c", "01000001", "A"}, {"%c", "1", "\x01"}, {"%c", "x1z00001", "A"}, {"%C", "11111111", "\xff"},
		{"%s", "01000001", "A"}, {"%S", "0100000101000010", "AB"}, {"%s", "000000000100000100000000", "A\x00"}, {"%s", "0", ""}, {"%2s", "00000000", "  "},
		{"%3s", "0100000101000010", " AB"}, {"%1s", "0100000101000010", "AB"}, {"%0s", "01000001", "A"}, {"%s", "x1000001", "A"}, {"%s", "101000001", "\x01A"},
	} {
		wantFormat(t, x.f, []string{x.v}, 0, x.want)
	}
	for _, x := range []struct {
		f    string
		time int64
		want string
	}{
		{"%t", 0, strings.Repeat(" ", 19) + "0"}, {"%T", 1000000000000, "       1000000000000"}, {"%0t", 0, "0"}, {"%1t", 42, "42"}, {"%3t", 42, " 42"}, {"%20t", 7, strings.Repeat(" ", 19) + "7"},
	} {
		wantFormat(t, x.f, nil, x.time, x.want)
	}
}

// P6.2: all conversions of all short vectors and of chosen wide ones.
func TestConversionsOfAllKinds(t *testing.T) {
	for _, v := range append(vectors("01xz", 4), wideVectors()...) {
		for _, letter := range strings.Split("bodhcs", "") {
			for _, minimum := range minima {
				wantFormat(t, "%"+minimum+letter, []string{v}, 3, modelConversion(minimum, letter, v, 3))
			}
		}
	}
	for _, v := range append(vectors("01xz", 5), wideVectors()...) {
		for _, letter := range strings.Split("xBODHXCS", "") {
			for _, minimum := range []string{"", "0", "10"} {
				wantFormat(t, "%"+minimum+letter, []string{v}, 3, modelConversion(minimum, letter, v, 3))
			}
		}
	}
	for _, time := range []int64{0, 1, 9, 10, 99, 100, 123456789, 999999999999, 1000000000000} {
		for _, minimum := range minima {
			for _, letter := range []string{"t", "T"} {
				wantFormat(t, "%"+minimum+letter, nil, time, modelConversion(minimum, letter, "", time))
			}
		}
	}
}

// wantAll compares Count, and Format with too few, enough and too many arguments, with
// the model.
func wantAll(t *testing.T, g grammar, f string) {
	t.Helper()
	args := []string{"10x1", "s1000", "01100001", "0", "001000101", "z"}
	want, wantE := g.count(f)
	if n, e := Count(f); n != want || e != wantE {
		t.Fatalf("Count(%q) = %d, %d, want %d, %d", f, n, e, want, wantE)
	}
	for n := range args {
		s, e := Format(f, all(args[:n]), 12)
		switch {
		case wantE != api.OK:
			if s != "" || e != wantE {
				t.Fatalf("Format(%q, %d arguments) = %q, %d, want error %d", f, n, s, e, wantE)
			}
		case n < want:
			if s != "" || e != api.ErrShort {
				t.Fatalf("Format(%q, %d arguments) = %q, %d, want ErrShort", f, n, s, e)
			}
		case n > want:
			if s != "" || e != api.ErrMore {
				t.Fatalf("Format(%q, %d arguments) = %q, %d, want ErrMore", f, n, s, e)
			}
		default:
			if model := g.format(f, args[:n], 12); s != model || e != api.OK {
				t.Fatalf("Format(%q, %d arguments) = %q, %d, want %q", f, n, s, e, model)
			}
		}
	}
}

// P6.1, P6.2, the terms and the errors: all short format strings.
func TestShortFormats(t *testing.T) {
	g := newGrammar()
	for _, f := range texts("%05bDxt-", 5) {
		wantAll(t, g, f)
	}
	for _, f := range texts("%09bodhcstq X", 3) {
		wantAll(t, g, "%"+f)
		wantAll(t, g, f+"%")
	}
	for _, f := range texts("%09d", 6) {
		wantAll(t, g, f)
	}
}

// P6.1, the terms: every byte at each place of a format string.
func TestBytes(t *testing.T) {
	g := newGrammar()
	for c := range 256 {
		b := string([]byte{byte(c)})
		for _, f := range []string{b, "%" + b, "%" + b + "d", "%5" + b, "%12" + b, "%12" + b + "d", "%123" + b, "%123" + b + "d", "%%" + b, "%b" + b + "%b", b + "%d", "%d" + b} {
			wantAll(t, g, f)
		}
		_, e := Count("%" + b)
		if conversion := strings.Contains(letters+"%", b); conversion != (e == api.OK) {
			t.Errorf("Count(%q): error %d", "%"+b, e)
		}
	}
}

// P6.1: Count of the conversions of chosen format strings.
func TestCount(t *testing.T) {
	for _, x := range []struct {
		f string
		n int
	}{
		{"", 0}, {"abc", 0}, {"%%", 0}, {"%%%%", 0}, {"%t%T%0t", 0}, {"%d", 1}, {"%%d", 0}, {"%%%d", 1}, {"%b%o%d%h%x%c%s", 7}, {"%B%O%D%H%X%C%S", 7},
		{"%d%%%t%s", 2}, {"%000d", 1}, {"%999s", 1}, {"%dd%t5", 1},
		{strings.Repeat("%d", 32768), 32768}, {strings.Repeat("%%", 32768), 0}, {strings.Repeat("a", 65536), 0},
	} {
		if n, e := Count(x.f); n != x.n || e != api.OK {
			t.Errorf("Count(%.40q) = %d, %d, want %d", x.f, n, e, x.n)
		}
	}
	for _, x := range []struct {
		f string
		e api.Errno
	}{
		{"%", api.ErrForm}, {"%%%", api.ErrForm}, {"%5", api.ErrForm}, {"%5%", api.ErrForm}, {"%0%", api.ErrForm}, {"%1234d", api.ErrForm}, {"%0000d", api.ErrForm},
		{"%-5d", api.ErrForm}, {"% d", api.ErrForm}, {"%5.2d", api.ErrForm}, {"%d%q", api.ErrForm}, {"%q%d", api.ErrForm}, {"%_d", api.ErrForm}, {"%\x00", api.ErrForm},
		{strings.Repeat("%d", 32767) + "a%", api.ErrForm}, {"%" + strings.Repeat("0", 65534) + "d", api.ErrForm},
		{strings.Repeat("a", 65537), api.ErrLong}, {"%q" + strings.Repeat("a", 65535), api.ErrLong}, {strings.Repeat("a", 65536) + "%", api.ErrLong},
	} {
		if n, e := Count(x.f); n != 0 || e != x.e {
			t.Errorf("Count(%.40q) = %d, %d, want error %d", x.f, n, e, x.e)
		}
	}
}

// The errors of Format, and their order: of two that apply, the first one is returned.
func TestErrorOrder(t *testing.T) {
	one := of("1")
	empty, long, bad := api.Vec{}, api.Vec{Bits: make([]api.Bit, 129)}, api.Vec{Bits: []api.Bit{0, api.BZ + 1}}
	list := func(l ...api.Vec) []api.Vec { return l }
	many := slices.Repeat(list(one), 70)
	tooLong := strings.Repeat("a", 65537)
	for _, x := range []struct {
		name, f string
		args    []api.Vec
		time    int64
		e       api.Errno
	}{
		{"time", "", nil, -1, api.ErrArg}, {"time", "", nil, 1000000000001, api.ErrArg}, {"time", "", nil, -1 << 63, api.ErrArg}, {"time", "", nil, 1<<63 - 1, api.ErrArg},
		{"time before arguments", "%d", list(empty), -1, api.ErrArg}, {"time before arguments", "%d", list(long), 1000000000001, api.ErrArg},
		{"time before format", "%q", nil, -1, api.ErrArg}, {"time before length", tooLong, nil, -1, api.ErrArg}, {"time before number", "%d", nil, -1, api.ErrArg},
		{"arguments", "%d", list(empty), 0, api.ErrShort}, {"arguments", "%d", list(long), 0, api.ErrLong}, {"arguments", "%d", list(bad), 0, api.ErrArg},
		{"first argument", "%d%d", list(long, bad), 0, api.ErrLong}, {"first argument", "%d%d", list(bad, long), 0, api.ErrArg}, {"second argument", "%d%d", list(one, long), 0, api.ErrLong},
		{"arguments before format", "%q", list(bad), 0, api.ErrArg}, {"arguments before format", "%q", list(empty), 0, api.ErrShort}, {"arguments before length", tooLong, list(bad), 0, api.ErrArg},
		{"arguments before number", "", list(bad), 0, api.ErrArg}, {"arguments before number", "%d", list(one, long), 0, api.ErrLong}, {"arguments before number", "%d%d%d", list(long), 0, api.ErrLong},
		{"length of the format", tooLong, nil, 0, api.ErrLong}, {"length before form", "%q" + tooLong, nil, 0, api.ErrLong}, {"length before number", "%d" + tooLong, nil, 0, api.ErrLong},
		{"form before too few", "%d%", nil, 0, api.ErrForm}, {"form before too many", "%", list(one), 0, api.ErrForm}, {"form before result", strings.Repeat("%999t", 70) + "%", nil, 0, api.ErrForm},
		{"too few", "%d", nil, 0, api.ErrShort}, {"too few", "%d%t%d", list(one), 0, api.ErrShort}, {"too few before result", strings.Repeat("%999d", 71), many, 0, api.ErrShort},
		{"too many", "", list(one), 0, api.ErrMore}, {"too many", "%t%%", list(one), 0, api.ErrMore}, {"too many", "%d", list(one, one), 0, api.ErrMore}, {"too many before result", strings.Repeat("%999d", 69), many, 0, api.ErrMore},
		{"result", strings.Repeat("%999d", 70), many, 0, api.ErrLong},
	} {
		wantError(t, x.name, x.f, x.args, x.time, x.e)
	}
	wantFormat(t, "%0t", nil, 1000000000000, "1000000000000")
}

// ErrLong: the result has at most MaxLog bytes, whatever exceeds them.
func TestLogBound(t *testing.T) {
	full := strings.Repeat("%999t", 65) // 64935 bytes.
	for _, x := range []struct {
		f    string
		args []string
		n    int
	}{
		{strings.Repeat("a", 65536), nil, 65536},
		{"%20t" + strings.Repeat("a", 65516), nil, 65536},
		{full + "%601t", nil, 65536}, {full + "%602t", nil, 65537}, {full + "%601t%%", nil, 65537}, {full + "%600t%%", nil, 65536}, {full + "%600t%%a", nil, 65537},
		{full + "%601d", []string{"1"}, 65536}, {full + "%602d", []string{"1"}, 65537}, {full + "%601ta", nil, 65537}, {full + "%601b", []string{"1"}, 65536}, {full + "%602b", []string{"1"}, 65537},
		{full + "%602t%0s", []string{"0"}, 65537}, {full + "%601t%0s", []string{"0"}, 65536}, {full + "%601t%c", []string{"0"}, 65537}, {full + full, nil, 129870},
	} {
		want := api.ErrLong
		if x.n <= 65536 {
			want = api.OK
		}
		s, e := Format(x.f, all(x.args), 1)
		if e != want || e == api.OK && len(s) != x.n || e != api.OK && s != "" {
			t.Errorf("Format(..%q) of %d bytes has %d, error %d, want error %d", x.f[len(x.f)-8:], x.n, len(s), e, want)
		}
	}
}

// randomFormat is a format string with the arguments that it uses.
func randomFormat(random *rand.Rand, values []string) (string, []string) {
	f := ""
	var args []string
	for range random.Intn(6) {
		switch random.Intn(4) {
		case 0:
			f += "%%"
		case 1:
			f += []string{"a", "5", "d", " é\x00\xff"}[random.Intn(4)]
		default:
			letter := letters[random.Intn(len(letters))]
			f += "%" + minima[random.Intn(len(minima))] + string(letter)
			if letter != 't' && letter != 'T' {
				args = append(args, values[random.Intn(len(values))])
			}
		}
	}
	return f, args
}

// P6.3: the result of a concatenation is the concatenation of the results.
func TestConcatenation(t *testing.T) {
	random := rand.New(rand.NewSource(63))
	values := append(vectors("01xz", 3), wideVectors()...)
	for range 20000 {
		f, fArgs := randomFormat(random, values)
		g, gArgs := randomFormat(random, values)
		if n, e := Count(f); n != len(fArgs) || e != api.OK {
			t.Fatalf("Count(%q) = %d, %d, want %d", f, n, e, len(fArgs))
		}
		first, e1 := Format(f, all(fArgs), 77)
		second, e2 := Format(g, all(gArgs), 77)
		if e1 != api.OK || e2 != api.OK {
			t.Fatalf("Format(%q): error %d, Format(%q): error %d", f, e1, g, e2)
		}
		wantFormat(t, f+g, slices.Concat(fArgs, gArgs), 77, first+second)
	}
}

// P6.4: text without percent signs is copied, and doubled percent signs yield one each.
func TestPlainText(t *testing.T) {
	for _, s := range append(texts("%a5d é\n\x00\xff", 4), strings.Repeat("%", 32768), strings.Repeat("text ", 13107)) {
		wantFormat(t, strings.ReplaceAll(s, "%", "%%"), nil, 0, s)
		if !strings.Contains(s, "%") {
			wantFormat(t, s, nil, 0, s)
		}
	}
}

// P6.5: %b writes the digits of a literal, and %0d the value of a known vector.
func TestNumbers(t *testing.T) {
	for _, v := range append(vectors("01xz", 6), wideVectors()...) {
		bits, e := Format("%b", all([]string{v}), 0)
		width := len(strings.TrimPrefix(v, "s"))
		got, next, e2 := literal.Parse(strconv.Itoa(width)+"'b"+bits, 0)
		if e != api.OK || e2 != api.OK || next != len(strconv.Itoa(width))+2+width || !vec.Same(got, vec.WithSign(of(v), false)) {
			t.Fatalf("%%b of %s is %q: errors %d and %d, offset %d", v, bits, e, e2, next)
		}
		if known(v) {
			wantFormat(t, "%0d", []string{v}, 0, value(v).String())
		}
	}
}

// P6.6: a greater minimum width only adds spaces, or zeros, on the left.
func TestMinimumWidths(t *testing.T) {
	for _, v := range append(vectors("01xz", 3), wideVectors()...) {
		for _, letter := range strings.Split(letters, "") {
			fill := " "
			if strings.Contains("bohxBOHX", letter) {
				fill = "0"
			}
			args := []string{v}
			if letter == "t" || letter == "T" {
				args = nil
			}
			last, _ := Format("%0"+letter, all(args), 123)
			for _, minimum := range []string{"1", "2", "3", "4", "5", "20", "21", "40", "128", "129"} {
				s, e := Format("%"+minimum+letter, all(args), 123)
				added, ok := strings.CutSuffix(s, last)
				if width, _ := strconv.Atoi(minimum); e != api.OK || !ok || strings.Trim(added, fill) != "" || letter != "c" && letter != "C" && len(s) < width {
					t.Fatalf("%%%s%s of %s = %q, %d after %q", minimum, letter, v, s, e, last)
				}
				last = s
			}
		}
	}
}

// P6.7: known vectors of the same width and sign are written with the same length, which
// is in base 10 the greatest that one of them needs.
func TestColumns(t *testing.T) {
	longest := map[string]int{}
	values := vectors("01", 10)
	for _, v := range append(values, wideVectors()...) {
		if !known(v) {
			continue
		}
		kind := strconv.Itoa(len(v)) + v[:1]
		if v[0] != 's' {
			kind = strconv.Itoa(len(v))
		}
		for _, letter := range []string{"b", "o", "d", "h"} {
			s, e := Format("%"+letter, all([]string{v}), 0)
			if n, ok := longest[kind+letter]; e != api.OK || ok && n != len(s) {
				t.Fatalf("%%%s of %s = %q, %d, another one has %d bytes", letter, v, s, e, n)
			}
			longest[kind+letter] = len(s)
		}
		s, _ := Format("%0d", all([]string{v}), 0)
		longest[kind] = max(longest[kind], len(s))
	}
	for _, v := range values {
		kind := strconv.Itoa(len(v)) + v[:1]
		if v[0] != 's' {
			kind = strconv.Itoa(len(v))
		}
		if longest[kind] != longest[kind+"d"] {
			t.Fatalf("%%d of vectors like %s has %d bytes, the longest one needs %d", v, longest[kind+"d"], longest[kind])
		}
	}
}

// P6.8: %s of the concatenation of bytes other than 0 consists of these bytes.
func TestStrings(t *testing.T) {
	random := rand.New(rand.NewSource(68))
	for n := 1; n <= 16; n++ {
		for range 200 {
			s, bits := "", ""
			for range n {
				c := 1 + random.Intn(255)
				s += string([]byte{byte(c)})
				bits += fillUp(strconv.FormatInt(int64(c), 2), "0", 8)
			}
			wantFormat(t, "%s", []string{bits}, 0, s)
			wantFormat(t, "%s", []string{"s" + bits}, 0, s)
		}
	}
	for c := 1; c < 256; c++ {
		bits := strconv.FormatInt(int64(c), 2)
		wantFormat(t, "%s", []string{bits}, 0, string([]byte{byte(c)}))
		wantFormat(t, "%c", []string{bits}, 0, string([]byte{byte(c)}))
	}
}

// R3: arguments are neither modified nor read beyond their length.
func TestIndependence(t *testing.T) {
	f := "%b %o %d %h %c %s|%5b%5o%5d%5h%5c%5s"
	for _, v := range append(vectors("01xz", 3), wideVectors()...) {
		var args []api.Vec
		var whole [][]api.Bit
		for range 12 {
			bits := append(of(v).Bits, api.B1, api.BZ+1)
			whole = append(whole, slices.Clone(bits))
			args = append(args, api.Vec{Bits: bits[:len(bits)-2], Signed: v[0] == 's'})
		}
		args = append(args, api.Vec{}) // Beyond the length of what is passed.
		want, _ := Format(f, all(slices.Repeat([]string{v}, 12)), 0)
		if got, e := Format(f, args[:12], 0); got != want || e != api.OK {
			t.Fatalf("Format(%s) with spare capacity = %q, %d, want %q", v, got, e, want)
		}
		for i, before := range whole {
			if bits := args[i].Bits; len(bits) != len(before)-2 || args[i].Signed != (v[0] == 's') || !slices.Equal(bits[:len(before)], before) {
				t.Fatalf("Format changed argument %d, %s, to %v", i, v, args[i])
			}
		}
	}
}
