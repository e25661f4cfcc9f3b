package expr_test

import (
	"math/rand"
	"slices"
	"strings"
	"testing"

	"netlab/api"
	"netlab/expr"
)

// checkParse compares Parse of s from offset at with the expected result, which next
// belongs to.
func checkParse(t *testing.T, s string, at int, want api.Expr, next int, e api.Errno) {
	t.Helper()
	x, n, got := expr.Parse(s, at)
	if got != e || n != next || !same(x, want) {
		t.Fatalf("Parse(%.300q, %d) = %.500v, %d, %d, want %.500v, %d, %d", s, at, x, n, got, want, next, e)
	}
}

// checkWords compares Parse of the words, separated by blanks, with the model.
func checkWords(t *testing.T, words []string) {
	t.Helper()
	want, count, e := wantParse(words)
	checkParse(t, strings.Join(words, " "), 0, want, len(strings.Join(words[:count], " ")), e)
	if e == api.OK {
		checkAgain(t, want)
	}
}

// checkAgain formats and parses an expression that has been parsed (P8.3).
func checkAgain(t *testing.T, x api.Expr) {
	t.Helper()
	if e := expr.Check(x); e != api.OK {
		t.Fatalf("Check(%.500v) = %d", x, e)
	}
	s, e := expr.Format(x)
	if s != text(x) || e != api.OK {
		t.Fatalf("Format(%.500v) = %.300q, %d, want %.300q", x, s, e, text(x))
	}
	checkParse(t, s, 0, x, len(s), api.OK)
}

// P8.1: the examples of the chapter.
func TestExamples(t *testing.T) {
	a, b, c := ref("a"), ref("b"), ref("c")
	for _, x := range []struct {
		s, text string
		want    api.Expr
	}{
		{"a + b * c", "(a + (b * c))", node(api.Add, a, node(api.Mul, b, c))},
		{"a - b - c", "((a - b) - c)", node(api.Sub, node(api.Sub, a, b), c)},
		{"c ? a : d ? e : f", "(c ? a : (d ? e : f))", node(api.Cond, c, a, node(api.Cond, ref("d"), ref("e"), ref("f")))},
		{"~a[3:0]", "(~a[3:0])", node(api.Not, named(api.Part, "a", lit("3"), lit("0")))},
		{"{2{x, y}}", "{2{x, y}}", node(api.Repl, lit("2"), ref("x"), ref("y"))},
		{"m[i][j]", "m[i][j]", named(api.Select, "m", ref("i"), ref("j"))},
		{"& & a", "(&(&a))", node(api.RedAnd, node(api.RedAnd, a))},
		{"$time", "$time", named(api.Sys, "$time")},
		{"$signed(a)", "$signed(a)", named(api.Sys, "$signed", a)},
		{"$unsigned(a)", "$unsigned(a)", named(api.Sys, "$unsigned", a)},
		{"a[b+:4]", "a[b+:4]", named(api.Slice, "a", b, lit("4"))},
		{"f(a,b)", "f(a, b)", named(api.Call, "f", a, b)},
		{"{a,b}", "{a, b}", node(api.Concat, a, b)},
		{"4'b1x0z", "4'b1x0z", lit("4'b1x0z")},
		{"8'hff", "8'b11111111", lit("8'hff")},
	} {
		checkParse(t, x.s, 0, x.want, len(x.s), api.OK)
		if s, e := expr.Format(x.want); s != x.text || e != api.OK {
			t.Errorf("Format of %q = %q, %d, want %q", x.s, s, e, x.text)
		}
	}
	checkParse(t, "a b", 0, a, 1, api.OK)
	for s, e := range map[string]api.Errno{"&& a": api.ErrForm, "(a": api.ErrShort, "a[1:]": api.ErrForm} {
		checkParse(t, s, 0, api.Expr{}, 0, e)
	}
}

// vocabulary are words of all kinds.
func vocabulary() []string {
	l := []string{"a", "f", "begin", "or", "1", "4'b1x", "'hz", "$time", "$signed", "$unsigned", "$display", "$if", "$times",
		`"a"`, `"("`, `"{"`, `"-"`, `"$time"`}
	l = append(l, strings.Fields("<<< >>> === !== << >> <= >= == != && || ** ~& ~| ~^ +: + - * / % < > ! ~ & | ^ ? : ; , . ( ) [ ] { } # @ =")...)
	for s := range malformed {
		l = append(l, s)
	}
	slices.Sort(l)
	return l
}

// checkLists compares all lists of up to most words with the model.
func checkLists(t *testing.T, vocabulary []string, most int) {
	t.Helper()
	var extend func(words []string)
	extend = func(words []string) {
		checkWords(t, words)
		if len(words) < most {
			for _, word := range vocabulary {
				extend(append(slices.Clone(words), word))
			}
		}
	}
	extend(nil)
}

// P8.1: all short lists of words.
func TestParseShortLists(t *testing.T) {
	checkLists(t, vocabulary(), 3)
	for _, s := range []string{"a 1 ( ) [ ] { } , - ? :", "a $time $signed ( ) + & $", "a [ ] : +: ? *", "a { } , 1"} {
		checkLists(t, strings.Fields(s), 5)
	}
	checkLists(t, strings.Fields("a ? :"), 9)
	checkLists(t, strings.Fields("a { }"), 9)
	checkLists(t, strings.Fields("a [ ] :"), 7)
}

// P8.1: every word after, between and in place of the words of all forms.
func TestParseEachPlace(t *testing.T) {
	for _, form := range []string{
		"a", "1", "- a", "a - b", "a ? b : c", "( a )", "{ a }", "{ a , b }", "{ a { b } }", "{ a { b , c } }", "$time", "$signed ( a )",
		"f ( a )", "f ( a , b )", "a [ b ]", "a [ b ] [ c ]", "a [ b : c ]", "a [ b +: c ]", "a [ b ? c : d : e ]", "a ? b ? c : d : e",
		"{ { a } { { b } } }", "- a ** - b", "a [ { b } ] [ f ( c ) ]", "a ? b : c ? d : e", "{ a { { b { c } } } }",
	} {
		words := strings.Fields(form)
		for i := range len(words) + 1 {
			checkWords(t, words[:i])
			for _, word := range vocabulary() {
				checkWords(t, slices.Insert(slices.Clone(words), i, word))
				if i < len(words) {
					checkWords(t, slices.Concat(words[:i], []string{word}, words[i+1:]))
				}
			}
			if i < len(words) {
				checkWords(t, slices.Delete(slices.Clone(words), i, i+1))
			}
		}
	}
}

// P8.1: random expressions, with words added, removed and replaced.
func TestParseLongLists(t *testing.T) {
	random := rand.New(rand.NewSource(81))
	w := writing{random}
	all := vocabulary()
	for range 20000 {
		x := randomExpr(random, 1+random.Intn(6))
		words := w.words(x, 0)
		if n, _ := measure(x); n > 4096 {
			continue
		}
		s := strings.Join(words, " ")
		checkParse(t, s, 0, x, len(s), api.OK)
		for range 1 + random.Intn(2) {
			i := random.Intn(len(words))
			switch random.Intn(3) {
			case 0:
				words = slices.Insert(words, i, pick(random, all...))
			case 1:
				words[i] = pick(random, all...)
			default:
				words = append(slices.Delete(words, i, i+1), ";")
			}
		}
		checkWords(t, words)
	}
}

// The errors of Parse at its first token, at the end of the text and at tokens that are
// malformed.
func TestParseErrors(t *testing.T) {
	for _, s := range []string{"", " ", "// a", "/**/", "(", "-", "a +", "a ?", "a ? b", "a ? b :", "{", "{ a", "{ a ,", "{ a {", "{ a { b", "{ a { b }",
		"f (", "f ( a", "f ( a ,", "a [", "a [ b", "a [ b :", "a [ b : c", "a [ b +:", "a [ b +: c", "a [ b ] [", "a [ b ] [ c", "$signed", "$signed (", "$unsigned ( a", "( a ) +"} {
		for _, end := range []string{"", " ", " // )", " /* ) */"} {
			checkParse(t, s+end, 0, api.Expr{}, 0, api.ErrShort)
		}
		for end, e := range map[string]api.Errno{`"`: api.ErrShort, `"\q"`: api.ErrForm, "/*": api.ErrShort, "4'": api.ErrShort, "4'b": api.ErrForm,
			"0'b1": api.ErrWidth, "2147483648": api.ErrLong, "$": api.ErrForm, "$1": api.ErrForm, "\x80": api.ErrForm, "`": api.ErrForm, ";": api.ErrForm, "if": api.ErrForm, `"a"`: api.ErrForm} {
			checkParse(t, s+"\n"+end, 0, api.Expr{}, 0, e)
		}
	}
	for _, s := range []string{"a ; $", "a", "a ]", "( a"} {
		for _, at := range []int{-1 << 62, -1, len(s) + 1, 1 << 62} {
			checkParse(t, s, at, api.Expr{}, 0, api.ErrArg)
		}
		checkParse(t, s, len(s), api.Expr{}, 0, api.ErrShort)
	}
}

// The bounds of the text.
func TestParseBounds(t *testing.T) {
	const most = 65536
	for _, s := range []string{"a", "(a)", "a+a", "f(a)", "{a}"} {
		filled := s + strings.Repeat(" ", most-len(s))
		x, count, e := wantParse(strings.Split(s, ""))
		checkParse(t, filled, 0, x, count, e)
		checkParse(t, filled+" ", 0, api.Expr{}, 0, api.ErrLong)
		checkParse(t, filled+" ", most+2, api.Expr{}, 0, api.ErrLong)
		filled = filled[len(s):] + s
		checkParse(t, filled, 0, x, most, e)
		checkParse(t, " "+filled, 0, api.Expr{}, 0, api.ErrLong)
	}
	name := strings.Repeat("a", most)
	checkParse(t, name, 0, ref(name), most, api.OK)
	checkParse(t, name, 1, ref(name[1:]), most, api.OK)
	checkParse(t, name+"a", 1, api.Expr{}, 0, api.ErrLong)
}

// ErrLong: levels, before the first token of the expression is read.
func TestParseLevels(t *testing.T) {
	repeat := func(s string, n int) []string { return strings.Fields(strings.Repeat(s+" ", n)) }
	for _, x := range []struct{ open, end string }{
		{"(", ")"}, {"-", ""}, {"( -", ")"}, {"- (", ")"}, {"{", "}"}, {"{ a {", "} }"}, {"{ a ,", "}"}, {"f (", ")"}, {"f ( a ,", ")"},
		{"m [", "]"}, {"m [ a ] [", "]"}, {"m [ a :", "]"}, {"m [ a +:", "]"}, {"$signed (", ")"}, {"a ? b :", ""}, {"a ?", ": b"}, {"( a +", ")"}, {"( a ?", ": b )"}, {"{ (", ") }"},
	} {
		for _, n := range []int{1, 30, 31, 32, 62, 63, 64, 65, 126, 127, 128, 129, 200} {
			for _, inner := range [][]string{{"a"}, {"-", "a"}, {"(", "a", ")"}, {"(", "(", "a", ")", ")"}, {";"}, {"$"}, {"a", ";"}, {}} {
				words := slices.Concat(repeat(x.open, n), inner, repeat(x.end, n))
				checkWords(t, words)
				checkWords(t, words[:len(repeat(x.open, n))])
			}
		}
	}
	for _, n := range []int{1, 126, 127} {
		checkParse(t, strings.Repeat("(", n)+"a"+strings.Repeat(")", n), 0, ref("a"), 2*n+1, api.OK)
		checkParse(t, strings.Repeat("(", n)+"a;", 0, api.Expr{}, 0, api.ErrForm)
	}
	for _, n := range []int{128, 129, 60000} {
		checkParse(t, strings.Repeat("(", n), 0, api.Expr{}, 0, api.ErrLong)
		checkParse(t, strings.Repeat("(", n)+"a;", 0, api.Expr{}, 0, api.ErrLong)
	}
	// The operators of one level are no deeper for the parser, but they are for Check.
	checkParse(t, strings.Repeat("a+", 63)+"a", 0, tree(append(repeat("a +", 63), "a")), 127, api.OK)
	checkParse(t, strings.Repeat("a+", 64)+"a", 0, api.Expr{}, 0, api.ErrLong)
	checkParse(t, strings.Repeat("a+", 30000)+";", 0, api.Expr{}, 0, api.ErrForm)
}

// ErrLong: nodes; a token that does not fit is found before.
func TestParseNodes(t *testing.T) {
	for n, want := range map[int]api.Errno{4095: api.OK, 4096: api.ErrLong, 20000: api.ErrLong} {
		items := strings.Repeat("a,", n-1) + "a"
		for _, x := range []struct {
			open, end string
			more      int
			op        uint8
		}{{"{", "}", 0, api.Concat}, {"f(", ")", 0, api.Call}, {"{a{", "}}", 1, api.Repl}} {
			s := x.open + items[2*x.more:] + x.end
			y, next, e := expr.Parse(s, 0)
			if e != want || e == api.OK && (next != len(s) || y.Op != x.op || len(y.Args) != n) || e != api.OK && (next != 0 || !isZero(y)) {
				t.Errorf("Parse of %s with %d items: %d, %d", x.open, n, next, e)
			}
			checkParse(t, s[:len(s)-1]+";", 0, api.Expr{}, 0, api.ErrForm)
			checkParse(t, s[:len(s)-1], 0, api.Expr{}, 0, api.ErrShort)
		}
	}
}

// P8.5: precedence and associativity of the binary operators.
func TestPrecedence(t *testing.T) {
	a, b, c := ref("a"), ref("b"), ref("c")
	level := func(s string) int {
		return slices.IndexFunc(levels, func(l []string) bool { return slices.Contains(l, s) })
	}
	for s1, op1 := range binaryWords {
		for s2, op2 := range binaryWords {
			want := node(op2, node(op1, a, b), c)
			if level(s1) < level(s2) {
				want = node(op1, a, node(op2, b, c))
			}
			s := "a " + s1 + " b " + s2 + " c"
			checkParse(t, s, 0, want, len(s), api.OK)
			for s3 := range binaryWords {
				checkWords(t, []string{"a", s1, "b", s2, "c", s3, "d"})
			}
		}
		s := "a " + s1 + " b ? a " + s1 + " b : a " + s1 + " b"
		x := node(op1, a, b)
		checkParse(t, s, 0, node(api.Cond, x, x, x), len(s), api.OK)
		for s2, op2 := range unaryWords {
			s := s2 + " a " + s1 + " " + s2 + " b"
			checkParse(t, s, 0, node(op1, node(op2, a), node(op2, b)), len(s), api.OK)
		}
	}
	for s1, op1 := range unaryWords {
		for s2, op2 := range unaryWords {
			s := s1 + " " + s2 + " f(a)"
			checkParse(t, s, 0, node(op1, node(op2, named(api.Call, "f", a))), len(s), api.OK)
		}
		s := s1 + " a ? " + s1 + " b : " + s1 + " c"
		checkParse(t, s, 0, node(api.Cond, node(op1, a), node(op1, b), node(op1, c)), len(s), api.OK)
	}
}

// P8.4: parentheses around an expression and around the operands that have them anyway.
func TestParentheses(t *testing.T) {
	random := rand.New(rand.NewSource(84))
	for range 5000 {
		x := randomExpr(random, 1+random.Intn(5))
		loose := strings.Join(writing{}.words(x, 0), " ")
		checkParse(t, loose, 0, x, len(loose), api.OK)
		for _, s := range []string{"(" + loose + ")", "( " + loose + " )", "((" + text(x) + "))", "(" + tight(writing{random}.words(x, 0)) + ")"} {
			checkParse(t, s, 0, x, len(s), api.OK)
		}
	}
}

// P8.6: additional separators, and what stands before and after an expression.
func TestSeparatorsAndContext(t *testing.T) {
	random := rand.New(rand.NewSource(86))
	before := []string{"", "a", "(", "4'b1", "/*", "//", `"`, "$", "\x80", "a +", "{{{"}
	after := []string{"", ";", ")", "]", "}", ",", ":", "=", "+:", "#1", "@", ".", " ~&", " ! a", " ~ a", ";(", ";?", `"`, "\"\\q\"", "`", "\x80", "\\", " $ a", " $", " 4'q", " b", " 0'b1", " /*", " if",
		" 2147483648", " //", " $time", " $signed(", ") + a"}
	for range 3000 {
		x := randomExpr(random, 1+random.Intn(5))
		words := writing{random}.words(x, 0)
		s, next := spread(random, words)
		checkParse(t, s, 0, x, next, api.OK)
		s = tight(words)
		checkParse(t, s, 0, x, len(s), api.OK)
		for range 5 {
			first, last := pick(random, before...), pick(random, after...)
			checkParse(t, first+s+last, len(first), x, len(first)+len(s), api.OK)
		}
	}
	// After a second index, a part or a slice, nothing that begins with a bracket fits.
	for _, s := range []string{"a[b][c]", "a[b:c]", "a[b+:c]", "(a)", "{a}", "{a{b}}", "1", "$time", "f(a)", "$signed(a)"} {
		for _, end := range []string{"[", "[1]", "(", "(b)", "{", "{b}", "{b{c}}", "a", "1", "$time"} {
			want, _, _ := expr.Parse(s, 0)
			checkParse(t, s+" "+end, 0, want, len(s), api.OK)
		}
	}
	for _, s := range []string{"abc", "$abc", "1'b0", "12", "a/**/b"} {
		x, next, e := expr.Parse(s, 1)
		if y, n, f := expr.Parse(s[1:], 0); !same(x, y) || next != n+1 || e != f || e != api.OK {
			t.Errorf("Parse(%q, 1) = %v, %d, %d, want %v, %d, %d", s, x, next, e, y, n+1, f)
		}
	}
}

// P8.7: proper prefixes.
func TestPrefixes(t *testing.T) {
	random := rand.New(rand.NewSource(87))
	for range 2000 {
		x := randomExpr(random, 2+random.Intn(3))
		isSafe := x.Op == api.Concat || x.Op == api.Repl || x.Op >= api.Cond
		if !isSafe {
			x = node(api.Not, x)
		}
		s := text(x)
		for i := range s {
			if y, next, e := expr.Parse(s[:i], 0); e == api.OK || next != 0 || !isZero(y) {
				t.Fatalf("Parse(%q) = %v, %d, %d", s[:i], y, next, e)
			}
		}
	}
}
