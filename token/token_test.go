package token

import (
	"math/rand"
	"slices"
	"strings"
	"testing"

	"netlab/api"
	"netlab/vec"
)

func checkNext(t *testing.T, s string, at int) {
	t.Helper()
	if got, want := next(s, at), wantNext(s, at); got != want {
		t.Fatalf("Next(%.300q, %d) = %v, want %v", s, at, got, want)
	}
}

func checkAll(t *testing.T, s string) {
	t.Helper()
	got, e := All(s)
	want, wantE := wantAll(s)
	same := func(a Token, r result) bool {
		return a.Kind == r.kind && a.Text == r.text && show(a.Val) == r.bits
	}
	if e != wantE || !slices.EqualFunc(got, want, same) {
		t.Fatalf("All(%.300q) = %v, %d, want %v, %d", s, got, e, want, wantE)
	}
}

// P7.1: the examples of the chapter.
func TestExamples(t *testing.T) {
	four, _ := All("a<=4'b1x; // end")
	want := []Token{{Kind: Ident, Text: "a"}, {Kind: Punct, Text: "<="}, {Kind: Number, Val: of("001x")}, {Kind: Punct, Text: ";"}}
	if !sameTokens(four, want) {
		t.Errorf("All = %v, want %v", four, want)
	}
	if got, want := next("a<=4'b1x; // end", 1), (result{kind: Punct, text: "<=", next: 3}); got != want {
		t.Errorf("Next after offset 1 = %v, want %v", got, want)
	}
	if got, want := next(`"a\"b"`, 0), (result{kind: String, text: `a"b`, next: 6}); got != want {
		t.Errorf("Next of a string = %v, want %v", got, want)
	}
	for s, want := range map[string]api.Errno{`"a`: api.ErrShort, "/*": api.ErrShort, "4'q": api.ErrForm, "9999999999": api.ErrLong, "4'": api.ErrShort, "0'b1": api.ErrWidth} {
		if l, e := All(s); e != want || l != nil {
			t.Errorf("All(%q) = %v, %d, want error %d", s, l, e, want)
		}
	}
	if s, e := Format(Token{Kind: Number, Val: of("s" + strings.Repeat("0", 29) + "101")}); s != "5" || e != api.OK {
		t.Errorf("Format of 5 = %q, %d", s, e)
	}
	if next, e := Take("a", 0, ";"); next != 0 || e != api.ErrForm {
		t.Errorf("Take of ; = %d, %d", next, e)
	}
}

// P7.1: all short texts, from every offset.
func TestNextShortTexts(t *testing.T) {
	for _, s := range texts("aZ_09$'b\"\\n/* \t\n\r<=~+.?`\x00\xff", 3) {
		for at := -1; at <= len(s)+1; at++ {
			checkNext(t, s, at)
		}
		checkAll(t, s)
	}
}

// P7.1: separators, in all orders of their characters.
func TestNextSeparators(t *testing.T) {
	for _, s := range texts("/* \na", 7) {
		checkNext(t, s, 0)
	}
	for _, s := range texts("/*\r\t\"", 5) {
		checkAll(t, s)
	}
}

// P7.1: strings, in all orders of their characters.
func TestNextStrings(t *testing.T) {
	for _, s := range texts("\"\\nta/* \n", 5) {
		checkNext(t, `"`+s, 0)
	}
}

// P7.1, P7.7: punctuation.
func TestNextPunctuation(t *testing.T) {
	for _, s := range texts("+-*%<>!~&|^?:;,.()[]{}#@=/", 3) {
		checkNext(t, s, 0)
	}
	for _, s := range texts("+*<>!~&|^:=", 4) {
		checkNext(t, s, 0)
	}
	for _, s := range punctList {
		for _, after := range append(punctList, "a", "1", "'b1", `""`, "$a", "\x80") {
			checkNext(t, s+after, 0)
			checkAll(t, s+after)
		}
	}
}

// P7.1: every byte at each place of a token.
func TestNextBytes(t *testing.T) {
	for c := range 256 {
		b := string([]byte{byte(c)})
		for _, s := range []string{b, "a" + b, b + "a", "a" + b + "a", "$" + b, "$a" + b, "1" + b, "'" + b, "4'b" + b, "4'b1" + b,
			`"` + b, `"` + b + `"`, `"\` + b, `"\` + b + `"`, `"a` + b + `a"`, `"" ` + b, "//" + b + "a", "/*" + b + "*/a", "<" + b, "==" + b, "/" + b, "if" + b} {
			checkNext(t, s, 0)
			checkAll(t, s)
		}
	}
}

// P7.1: keywords and words like them.
func TestNextWords(t *testing.T) {
	for _, k := range keywordList {
		for _, s := range []string{k, k + " ", k + ";", k + "s", k + "_", k + "0", k + "$", "_" + k, "x" + k, "$" + k, strings.ToUpper(k),
			strings.ToUpper(k[:1]) + k[1:], k[1:], k[:len(k)-1], k + k, k + "\x80", k + " " + k, k + "'b1"} {
			checkNext(t, s, 0)
			checkAll(t, s)
		}
	}
}

// P7.1 and the errors of Next: the bounds of the text and of the offset.
func TestNextBounds(t *testing.T) {
	for _, c := range []string{"a", " ", "//", "/**/", `"`, "$", ";", "1", "'", "\x00"} {
		for _, length := range []int{65535, 65536, 65537, 70000} {
			s := strings.Repeat(c, length/len(c)+1)[:length]
			for _, at := range []int{-1 << 62, -1, 0, 1, length / 2, length - 1, length, length + 1, 1 << 62} {
				checkNext(t, s, at)
				wantE := wantNext(s, at).e
				if wantE == api.ErrNone {
					wantE = api.ErrShort
				}
				if wantE == api.OK {
					continue
				}
				if next, e := Take(s, at, c); next != 0 || e != wantE {
					t.Fatalf("Take at %d of %d bytes = %d, %d, want error %d", at, length, next, e, wantE)
				}
				if name, next, e := Name(s, at); name != "" || next != 0 || e != wantE {
					t.Fatalf("Name at %d of %d bytes = %.20q, %d, %d, want error %d", at, length, name, next, e, wantE)
				}
				if Peek(s, at, c) {
					t.Fatalf("Peek at %d of %d bytes", at, length)
				}
			}
		}
	}
	for _, s := range []string{strings.Repeat("a ", 32768), strings.Repeat(";", 65536), strings.Repeat(" ", 65536), "/*" + strings.Repeat("*", 65532) + "*/",
		strings.Repeat("a", 65537), strings.Repeat("\"", 65537), "/*" + strings.Repeat(" ", 65534), strings.Repeat("/", 65537)} {
		checkAll(t, s)
	}
}

// The errors of Next and All, each with a later one in the same text, and the first one
// of several tokens.
func TestErrorOrder(t *testing.T) {
	for _, x := range []struct {
		s string
		e api.Errno
	}{
		{"", api.ErrNone}, {" \t\r\n", api.ErrNone}, {"// a", api.ErrNone}, {"/**/", api.ErrNone}, {"/* // */ //", api.ErrNone},
		{"/*", api.ErrShort}, {"/*/", api.ErrShort}, {"/* * /", api.ErrShort}, {"/**/ /* \" 4' \x00", api.ErrShort}, {"// /*", api.ErrNone},
		{`"`, api.ErrShort}, {`"\`, api.ErrShort}, {`"\"`, api.ErrShort}, {"\"a\nb", api.ErrForm}, {`"\a`, api.ErrForm}, {"\"\\\n\"", api.ErrForm},
		{"\"\t\"", api.ErrForm}, {"\"\x7f", api.ErrForm}, {"\"\x1f", api.ErrForm}, {`"a" "`, api.OK}, {`"\q` + "\x00", api.ErrForm},
		{"4'", api.ErrShort}, {"4'q", api.ErrForm}, {"129'b1", api.ErrWidth}, {"2147483648", api.ErrLong}, {"1a", api.ErrForm}, {"'", api.ErrShort},
		{"$", api.ErrForm}, {"$$a", api.ErrForm}, {"$1", api.ErrForm}, {"$ a", api.ErrForm}, {"`", api.ErrForm}, {"\\", api.ErrForm}, {"\x80", api.ErrForm}, {"\v", api.ErrForm}, {"é", api.ErrForm},
	} {
		want := result{e: x.e}
		if got := next(x.s, 0); x.e != api.OK && got != want {
			t.Errorf("Next(%q) = %v, want error %d", x.s, got, x.e)
		}
		if x.e == api.OK || x.e == api.ErrNone {
			continue
		}
		for _, s := range []string{x.s, "a " + x.s, "/* */;" + x.s, `"" ` + x.s} {
			if l, e := All(s); l != nil || e != x.e {
				t.Errorf("All(%q) = %v, %d, want error %d", s, l, e, x.e)
			}
		}
	}
	for s, want := range map[string]api.Errno{"$ 4'": api.ErrForm, "4' $": api.ErrForm, "1'b2 \"": api.ErrForm, "a 0'b1 /*": api.ErrWidth, "a \"\\q /*": api.ErrForm, "a /* $": api.ErrShort} {
		if l, e := All(s); l != nil || e != want {
			t.Errorf("All(%q) = %v, %d, want error %d", s, l, e, want)
		}
	}
}

// P7.2: Take and Peek accept exactly the keyword or punctuation, Name exactly an identifier.
func TestTakeNamePeek(t *testing.T) {
	candidates := append([]string{"", "a", "$a", "1", `"`, " ", "begi", "Begin", "+ ", "<<<<", "\x80", "begin end"}, append(keywordList, punctList...)...)
	var sources []string
	for _, s := range candidates {
		sources = append(sources, s, " "+s, "/**/"+s+" x", s+s, `"`+s+`"`, "$"+s, s+"=")
	}
	for _, s := range append(sources, texts("if=<+ \"/*$1'", 3)...) {
		for at := 0; at <= min(2, len(s)); at++ {
			checkTakeNamePeek(t, s, at, candidates)
		}
	}
}

func checkTakeNamePeek(t *testing.T, s string, at int, candidates []string) {
	t.Helper()
	r := wantNext(s, at)
	if r.e == api.ErrNone {
		r.e = api.ErrShort
	}
	for _, text := range candidates {
		want := r
		if r.e == api.OK && (r.kind != 2 && r.kind != 6 || r.text != text) {
			want = result{e: api.ErrForm}
		}
		if next, e := Take(s, at, text); next != want.next || e != want.e {
			t.Fatalf("Take(%q, %d, %q) = %d, %d, want %d, %d", s, at, text, next, e, want.next, want.e)
		}
		if got := Peek(s, at, text); got != (want.e == api.OK) {
			t.Fatalf("Peek(%q, %d, %q) = %t", s, at, text, got)
		}
	}
	if r.e == api.OK && r.kind != 1 {
		r = result{e: api.ErrForm}
	}
	if name, next, e := Name(s, at); name != r.text || next != r.next || e != r.e {
		t.Fatalf("Name(%q, %d) = %q, %d, %d, want %q, %d, %d", s, at, name, next, e, r.text, r.next, r.e)
	}
}

// P7.2: IsKeyword.
func TestIsKeyword(t *testing.T) {
	words := append([]string{"", "a", "always ", " always", "Always", "alwaysand", "inout", "logic", "tri", "highz", "time", "real", "$if"}, keywordList...)
	for _, k := range keywordList {
		words = append(words, k[1:], k[:len(k)-1], k+"0", k+"1", k+"x", k+" ", k+"\x00", strings.ToUpper(k))
	}
	for _, s := range append(words, punctList...) {
		if got, want := IsKeyword(s), slices.Contains(keywordList, s); got != want {
			t.Errorf("IsKeyword(%q) = %t", s, got)
		}
	}
}

// P7.3: tokens of all kinds with all short texts.
func TestFormatTexts(t *testing.T) {
	words := append(texts("ai_0$\"\\ \n\t+=~'/\x00\x1f\x7f\xff", 3), append(keywordList, punctList...)...)
	for _, k := range append(keywordList, punctList...) {
		words = append(words, k+" ", " "+k, k+"=", k+"$", "$"+k, "_"+k, k+"/**/", k+"\n")
	}
	for c := range 256 {
		b := string([]byte{byte(c)})
		words = append(words, b, "a"+b, b+"a", "$"+b, "$a"+b)
	}
	words = append(words, strings.Repeat("a", 70000), "$"+strings.Repeat("a", 70000), strings.Repeat("=", 70000))
	for _, text := range words {
		for _, kind := range []uint8{0, 1, 2, 3, 5, 6, 7, 8, 255} {
			// The vector is ignored, whether valid or not.
			got, e := Format(Token{kind, text, api.Vec{Bits: []api.Bit{api.BZ + 1}}})
			if want, wantE := wantFormat(kind, text); got != want || e != wantE {
				t.Fatalf("Format of kind %d, %.50q = %.50q, %d, want %.50q, %d", kind, text, got, e, want, wantE)
			}
		}
	}
	for kind := range 256 {
		want := api.ErrKind
		if 1 <= kind && kind <= 6 {
			continue
		}
		if s, e := Format(Token{uint8(kind), "a", of("1")}); s != "" || e != want {
			t.Errorf("Format of kind %d = %q, %d", kind, s, e)
		}
	}
}

// P7.3: numbers.
func TestFormatNumbers(t *testing.T) {
	random := rand.New(rand.NewSource(73))
	var l []string
	for _, s := range texts("01xz", 4)[1:] {
		l = append(l, s, "s"+s)
	}
	for _, width := range []int{8, 31, 32, 33, 64, 127, 128} {
		for _, s := range []string{"0", "1", "x", "z", "01", "10", "0x", "z0"} {
			bits := strings.Repeat(s, width)[:width]
			l = append(l, bits, "s"+bits, "s0"+bits[1:], "s1"+bits[1:], "s"+bits[:width-1]+"x", "s"+bits[:width-1]+"1", "0"+bits[1:])
		}
		for range 50 {
			bits := ""
			for range width {
				bits += string("01"[random.Intn(2)])
			}
			l = append(l, bits, "s"+bits, "s0"+bits[1:])
		}
	}
	for _, s := range l {
		// The text is ignored.
		if got, e := Format(Token{Number, "$", of(s)}); got != wantNumber(s) || e != api.OK {
			t.Fatalf("Format of %s = %q, %d, want %q", s, got, e, wantNumber(s))
		}
	}
	for _, v := range []api.Vec{{}, {Signed: true}, {Bits: make([]api.Bit, 129)}, {Bits: []api.Bit{0, 4}}, {Bits: append(make([]api.Bit, 31), 4), Signed: true}} {
		if s, e := Format(Token{Kind: Number, Val: v}); s != "" || e != vec.Check(v) {
			t.Errorf("Format of %v = %q, %d, want error %d", v, s, e, vec.Check(v))
		}
	}
}

// P7.3: Join, its first error and the bound of its result.
func TestJoin(t *testing.T) {
	ident := func(n int) Token { return Token{Kind: Ident, Text: strings.Repeat("a", n)} }
	bad := Token{Kind: Punct, Text: "$"}
	for _, x := range []struct {
		l    []Token
		want string
		e    api.Errno
	}{
		{nil, "", api.OK},
		{[]Token{ident(1)}, "a", api.OK},
		{[]Token{{Kind: String}, {Kind: Punct, Text: "/"}, {Kind: Punct, Text: "/"}, ident(2)}, `"" / / aa`, api.OK},
		{[]Token{{Kind: Number, Val: of("s01")}, {Kind: Keyword, Text: "if"}, {Kind: System, Text: "$if"}}, "2'sb01 if $if", api.OK},
		{[]Token{ident(65536)}, strings.Repeat("a", 65536), api.OK},
		{[]Token{ident(65537)}, "", api.ErrLong},
		{[]Token{ident(65534), ident(1)}, strings.Repeat("a", 65534) + " a", api.OK},
		{[]Token{ident(65534), ident(2)}, "", api.ErrLong},
		{[]Token{{Kind: String, Text: strings.Repeat("\n", 32767)}}, `"` + strings.Repeat(`\n`, 32767) + `"`, api.OK},
		{[]Token{{Kind: String, Text: strings.Repeat("\n", 32767) + "a"}}, "", api.ErrLong},
		{[]Token{ident(65537), bad}, "", api.ErrForm},
		{[]Token{ident(65537), {}, bad}, "", api.ErrKind},
		{[]Token{ident(1), bad, {}}, "", api.ErrForm},
		{[]Token{{Kind: Number}, bad, {}}, "", api.ErrShort},
	} {
		if got, e := Join(x.l); got != x.want || e != x.e {
			t.Errorf("Join(%.200v) = %.50q, %d, want %.50q, %d", x.l, got, e, x.want, x.e)
		}
	}
	for _, a := range punctList {
		for _, b := range punctList {
			if got, e := Join([]Token{{Kind: Punct, Text: a}, {Kind: Punct, Text: b}}); got != a+" "+b || e != api.OK {
				t.Errorf("Join of %q and %q = %q, %d", a, b, got, e)
			}
		}
	}
}

// P7.4: the tokens of joined tokens, and the joined tokens of a text.
func TestRoundTrip(t *testing.T) {
	random := rand.New(rand.NewSource(74))
	for range 3000 {
		l := randomTokens(random, 12)
		s, e := Join(l)
		if e != api.OK {
			t.Fatalf("Join(%v): error %d", l, e)
		}
		if got, e := All(s); e != api.OK || !sameTokens(got, l) {
			t.Fatalf("All(%q) = %v, %d, want %v", s, got, e, l)
		}
	}
	for _, s := range append(texts("a1'b$\"\\/* \n<=~", 3), texts("ab\"\\n \t", 5)...) {
		checkJoined(t, s)
	}
	for range 20000 {
		checkJoined(t, pick(random, "aif01'bxzsd$\"\\n/* \n<>=~^&|!+:;", 15))
	}
}

// checkJoined joins and splits the tokens of s, if it can be split.
func checkJoined(t *testing.T, s string) {
	t.Helper()
	l, e := All(s)
	if e != api.OK {
		return
	}
	joined, e := Join(l)
	if e != api.OK {
		t.Fatalf("Join of the tokens of %q: error %d", s, e)
	}
	if again, e := All(joined); e != api.OK || !sameTokens(again, l) {
		t.Fatalf("the tokens of %q are %v, those of %q are %v, %d", s, l, joined, again, e)
	}
}

// P7.5: additional separators.
func TestMoreSeparators(t *testing.T) {
	random := rand.New(rand.NewSource(75))
	separator := func() string {
		s := " \t\r\n"[random.Intn(4):][:1]
		for range random.Intn(4) {
			s += []string{" ", "\t", "\r", "\n", "// a \" /* \n", "//\n", "/**/", "/* // */", "/***/", "/*/ \n\" */", "/* \x80 */"}[random.Intn(11)]
		}
		return s
	}
	for range 3000 {
		l := randomTokens(random, 8)
		s := separator()
		for _, x := range l {
			text, _ := Format(x)
			s += text + separator()
		}
		for _, end := range []string{"", "//", "// \x00 \"", "/* */"} {
			if got, e := All(s + end); e != api.OK || !sameTokens(got, l) {
				t.Fatalf("All(%q) = %v, %d, want %v", s+end, got, e, l)
			}
		}
	}
}

// P7.6: the tokens found one by one are those of All, at increasing offsets.
func TestProgress(t *testing.T) {
	random := rand.New(rand.NewSource(76))
	for range 30000 {
		s := pick(random, "aif01'b$\"n/* \n<>=~^&:;", 20)
		all, e := All(s)
		if e != api.OK {
			continue
		}
		at := 0
		for i, want := range all {
			got, next, e := Next(s, at)
			if e != api.OK || next <= at || !sameToken(got, want) {
				t.Fatalf("token %d of %q at %d = %v, %d, %d, want %v", i, s, at, got, next, e, want)
			}
			at = next
		}
		if got := next(s, at); got != (result{e: api.ErrNone}) {
			t.Fatalf("after the tokens of %q: %v", s, got)
		}
	}
}

// P7.7: no longer punctuation fits.
func TestLongestMatch(t *testing.T) {
	for _, s := range texts("+*<>!~&|^:=-", 4) {
		got := next(s, 0)
		for _, p := range punctList {
			if strings.HasPrefix(s, p) && len(p) > len(got.text) {
				t.Fatalf("Next(%q) = %v, but %q fits", s, got, p)
			}
		}
	}
}

// P7.8: two texts joined by a line feed.
func TestConcatenation(t *testing.T) {
	parts := []string{"", "//", "// a", "/**/", "a //", "4", "4'b1", "'hf", "a", "$a", `"a"`, "<", "=", "/", "*", "*/", "if", " \n", "a <= b;"}
	random := rand.New(rand.NewSource(78))
	for range 100 {
		parts = append(parts, pick(random, "aif01'b$\"n/* \n<>=~^&:;", 8))
	}
	for _, a := range parts {
		for _, b := range parts {
			first, e1 := All(a)
			second, e2 := All(b)
			if e1 != api.OK || e2 != api.OK {
				continue
			}
			if both, e := All(a + "\n" + b); e != api.OK || !sameTokens(both, append(first, second...)) {
				t.Fatalf("All(%q) = %v, %d, want %v and %v", a+"\n"+b, both, e, first, second)
			}
		}
	}
}

// P1, R3: results share no memory, and arguments are neither modified nor read beyond
// their length.
func TestIndependence(t *testing.T) {
	for _, s := range []string{"1", "4'b1x0z 5", "'hz", "a 8'sd3 \"b\""} {
		first, _ := All(s)
		second, _ := All(s)
		want := slices.Clone(second)
		for _, x := range first {
			for i := range x.Val.Bits[:cap(x.Val.Bits)] {
				x.Val.Bits[:cap(x.Val.Bits)][i] = api.BZ + 1
			}
		}
		clear(first[:cap(first)])
		third, _ := All(s)
		if !sameTokens(second, want) || !sameTokens(third, want) {
			t.Fatalf("All(%q) = %v after another result was overwritten", s, third)
		}
	}
	bits := of("s" + strings.Repeat("0", 29) + "101").Bits
	whole := append(bits, api.BX, api.BZ+1)
	l := []Token{{Kind: Number, Val: api.Vec{Bits: whole[:32], Signed: true}}, {Kind: Number, Val: api.Vec{Bits: whole[:3]}}, {}}
	before := slices.Clone(whole)
	if s, e := Join(l[:2]); s != "5 3'b101" || e != api.OK {
		t.Errorf("Join with spare capacity = %q, %d", s, e)
	}
	if !slices.Equal(whole, before) || l[0].Kind != Number || l[1].Kind != Number || l[2].Kind != 0 {
		t.Errorf("Join changed its argument to %v", l)
	}
}
