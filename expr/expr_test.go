package expr_test

import (
	"math"
	"math/rand"
	"slices"
	"strings"
	"testing"

	"netlab/api"
	"netlab/expr"
)

// formOf is the number of Args of each operator.
func formOf(op uint8) (least, most int) {
	switch {
	case op == api.Lit || op == api.Ref:
		return 0, 0
	case op == api.Select:
		return 1, 2
	case op == api.Part || op == api.Slice:
		return 2, 2
	case op == api.Concat || op == api.Call:
		return 1, math.MaxInt
	case op == api.Repl:
		return 2, math.MaxInt
	case op == api.Cond:
		return 3, 3
	case signOf(unaryWords, op) != "":
		return 1, 1
	case signOf(binaryWords, op) != "":
		return 2, 2
	}
	return -1, -1
}

// wantNode is the error of a node whose Args are valid.
func wantNode(x api.Expr) api.Errno {
	n := len(x.Args)
	if x.Op == api.Sys {
		if n == 0 && x.Name == "$time" || n == 1 && (x.Name == "$signed" || x.Name == "$unsigned") {
			return api.OK
		}
		return api.ErrForm
	}
	least, most := formOf(x.Op)
	if least < 0 {
		return api.ErrKind
	}
	if n < least || n > most {
		return api.ErrForm
	}
	switch x.Op {
	case api.Ref, api.Select, api.Part, api.Slice, api.Call:
		if !slices.Contains([]string{"a", "A_z$9", "begins", "_"}, x.Name) {
			return api.ErrForm
		}
	case api.Lit:
		switch {
		case len(x.Val.Bits) == 0:
			return api.ErrShort
		case len(x.Val.Bits) > 128:
			return api.ErrLong
		case slices.ContainsFunc(x.Val.Bits, func(b api.Bit) bool { return b > api.BZ }):
			return api.ErrArg
		}
	}
	return api.OK
}

var names = []string{"a", "A_z$9", "begins", "_", "", "begin", "xor", "$time", "$signed", "$unsigned", "$display", "$signe", "$signeds", "$Time", "$", "a b", " a", "a ", "a//", "a/**/", "1", "9a", "$a", "é", "a\x00", "a.b", "a[0]", "+", "Begin-"}

func vectors() []api.Vec {
	return []api.Vec{
		{Bits: []api.Bit{api.B1, api.BX, api.BZ}, Signed: true}, {Bits: make([]api.Bit, 128)},
		{}, {Signed: true}, {Bits: make([]api.Bit, 129)}, {Bits: []api.Bit{api.B0, 4}}, {Bits: append(make([]api.Bit, 127), 255)}, {Bits: append(make([]api.Bit, 128), 4)},
	}
}

// P8.1: Check of every operator with every number of Args, names and vectors of a list.
func TestCheckNodes(t *testing.T) {
	args := slices.Repeat([]api.Expr{ref("a")}, 6)
	for op := range 256 {
		for n := range len(args) {
			for _, name := range names {
				for i, v := range vectors() {
					x := api.Expr{Op: uint8(op), Name: name, Val: v, Args: args[:n], Sig: i - 3, Width: -i, Signed: i%2 == 0}
					if got, want := expr.Check(x), wantNode(x); got != want {
						t.Fatalf("Check(%v) = %d, want %d", x, got, want)
					}
					if s, e := expr.Format(x); e != wantNode(x) || e != api.OK && s != "" || e == api.OK && s != text(x) {
						t.Fatalf("Format(%v) = %q, %d, want error %d", x, s, e, wantNode(x))
					}
				}
			}
		}
	}
}

// bad are expressions with one error each.
func bad() map[api.Errno][]api.Expr {
	a := ref("a")
	return map[api.Errno][]api.Expr{
		api.ErrKind:  {{}, node(45), named(255, "a", a)},
		api.ErrForm:  {ref(""), ref("if"), node(api.Add, a), node(api.Cond, a, a), node(api.Concat), named(api.Sys, "$time", a), named(api.Sys, "$x"), named(api.Call, "f"), {Op: api.Lit, Val: lit("1").Val, Args: []api.Expr{a}}},
		api.ErrShort: {node(api.Lit)},
		api.ErrLong:  {{Op: api.Lit, Val: api.Vec{Bits: make([]api.Bit, 129)}}},
		api.ErrArg:   {{Op: api.Lit, Val: api.Vec{Bits: []api.Bit{4}}}},
	}
}

// P8.1: the errors of a node come before those of its Args, and these in order.
func TestCheckOrder(t *testing.T) {
	a := ref("a")
	check := func(x api.Expr, want api.Errno) {
		t.Helper()
		if got := expr.Check(x); got != want {
			t.Fatalf("Check(%v) = %d, want %d", x, got, want)
		}
		if s, got := expr.Format(x); got != want || s != "" {
			t.Fatalf("Format(%v) = %q, %d, want %d", x, s, got, want)
		}
	}
	for e1, l1 := range bad() {
		for _, x := range l1 {
			for _, y := range []api.Expr{
				x, node(api.Not, x), node(api.Add, a, x), named(api.Select, "m", a, x), named(api.Part, "m", x, a), named(api.Slice, "m", a, x), node(api.Concat, a, a, a, x),
				node(api.Repl, a, a, x), named(api.Call, "f", a, x), named(api.Sys, "$signed", x), node(api.Cond, a, a, x), node(api.Cond, x, a, a), node(api.Shl, node(api.Mul, a, node(api.Not, x)), a),
			} {
				check(y, e1)
			}
			for _, l2 := range bad() {
				for _, y := range l2 {
					check(node(api.Add, x, y), e1)
					check(node(api.Concat, a, node(api.Not, x), y), e1)
					check(node(api.Cond, node(api.Not, node(api.Not, x)), y, a), e1)
					check(named(api.Ref, "a", y), api.ErrForm)
					check(named(api.Select, "", y), api.ErrForm)
					check(named(api.Call, "if", y, x), api.ErrForm)
					check(node(0, y), api.ErrKind)
					check(node(api.Add, y), api.ErrForm)
				}
			}
			check(node(api.Concat, append([]api.Expr{x}, slices.Repeat([]api.Expr{a}, 4095)...)...), api.ErrLong)
			check(chain(65, x), api.ErrLong)
		}
	}
}

// chain is an expression of that depth.
func chain(depth int, x api.Expr) api.Expr {
	for range depth - 1 {
		x = node(api.Not, x)
	}
	return x
}

// P8.1: MaxNodes and MaxDepth.
func TestCheckBounds(t *testing.T) {
	a := ref("a")
	row := func(n int) api.Expr { return node(api.Concat, slices.Repeat([]api.Expr{a}, n)...) }
	rows := func(n, m int) api.Expr { return node(api.Concat, slices.Repeat([]api.Expr{row(m)}, n)...) }
	double := func(depth int) api.Expr {
		x := a
		for range depth - 1 {
			x = node(api.Add, x, x)
		}
		return x
	}
	for _, c := range []struct {
		x    api.Expr
		want api.Errno
	}{
		{row(4095), api.OK}, {row(4096), api.ErrLong}, {row(50000), api.ErrLong},
		{rows(63, 64), api.OK}, {rows(64, 63), api.ErrLong}, {node(api.Not, rows(63, 64)), api.ErrLong},
		{node(api.Add, row(2046), row(2047)), api.OK}, {node(api.Add, row(2047), row(2047)), api.ErrLong},
		{double(12), api.OK}, {double(13), api.ErrLong}, {double(20), api.ErrLong},
		{chain(64, a), api.OK}, {chain(65, a), api.ErrLong}, {chain(60000, a), api.ErrLong},
		{chain(64, lit("1")), api.OK}, {node(api.Add, a, chain(63, a)), api.OK}, {node(api.Add, chain(64, a), a), api.ErrLong},
		{node(255, slices.Repeat([]api.Expr{a}, 4096)...), api.ErrLong}, {node(255, slices.Repeat([]api.Expr{a}, 4095)...), api.ErrKind},
	} {
		if got := expr.Check(c.x); got != c.want {
			n, d := measure(c.x)
			t.Errorf("Check of %d nodes of depth %d = %d, want %d", n, d, got, c.want)
		}
		if _, got := expr.Format(c.x); got != c.want {
			t.Errorf("Format: %d, want %d", got, c.want)
		}
	}
}

// P8.1: Format of every form, and the bound of its text.
func TestFormatBounds(t *testing.T) {
	a := ref("a")
	args := func(x api.Expr, n int) []api.Expr { return append(slices.Repeat([]api.Expr{a}, n-1), x) }
	shapes := []func(x api.Expr) api.Expr{
		func(x api.Expr) api.Expr { return x },
		func(x api.Expr) api.Expr { return named(api.Select, "m", x) },
		func(x api.Expr) api.Expr { return named(api.Select, "m", a, x) },
		func(x api.Expr) api.Expr { return named(api.Part, "m", a, x) },
		func(x api.Expr) api.Expr { return named(api.Slice, "m", a, x) },
		func(x api.Expr) api.Expr { return named(api.Select, x.Name, a) },
		func(x api.Expr) api.Expr { return named(api.Call, x.Name, a, a) },
		func(x api.Expr) api.Expr { return node(api.Concat, args(x, 4)...) },
		func(x api.Expr) api.Expr { return node(api.Repl, args(x, 4)...) },
		func(x api.Expr) api.Expr { return named(api.Call, "f", args(x, 3)...) },
		func(x api.Expr) api.Expr { return named(api.Sys, "$unsigned", x) },
		func(x api.Expr) api.Expr { return node(api.Cond, args(x, 3)...) },
	}
	for op := api.Plus; op <= api.RedXnor; op++ {
		shapes = append(shapes, func(x api.Expr) api.Expr { return node(op, x) })
	}
	for op := api.Add; op <= api.AShr; op++ {
		shapes = append(shapes, func(x api.Expr) api.Expr { return node(op, a, x) })
	}
	for _, shape := range shapes {
		more := len(text(shape(a))) - 1
		x := shape(ref(strings.Repeat("b", 65536-more)))
		s, e := expr.Format(x)
		if s != text(x) || e != api.OK {
			t.Fatalf("Format(%.100v): %d bytes, %d", x, len(s), e)
		}
		checkParse(t, s, 0, x, 65536, api.OK)
		if more == 0 {
			continue // a longer name alone is longer than any text that can be parsed
		}
		if s, e := expr.Format(shape(ref(strings.Repeat("b", 65537-more)))); s != "" || e != api.ErrLong {
			t.Fatalf("Format(%.100v), with one byte more: %d bytes, %d", x, len(s), e)
		}
	}
	many := node(api.Concat, slices.Repeat([]api.Expr{ref(strings.Repeat("b", 60000))}, 4000)...)
	if s, e := expr.Format(many); s != "" || e != api.ErrLong {
		t.Errorf("Format of many long names: %d bytes, %d", len(s), e)
	}
	if s, e := expr.Format(node(api.Add, many, ref(""))); s != "" || e != api.ErrForm {
		t.Errorf("Format of many long names and an invalid one: %d bytes, %d", len(s), e)
	}
}

// P8.3: formatting and parsing random expressions and the deepest ones.
func TestRoundTrip(t *testing.T) {
	random := rand.New(rand.NewSource(83))
	for range 20000 {
		checkAgain(t, randomExpr(random, 1+random.Intn(6)))
	}
	a := ref("a")
	for _, wrap := range []func(x api.Expr) api.Expr{
		func(x api.Expr) api.Expr { return node(api.Minus, x) },
		func(x api.Expr) api.Expr { return node(api.Sub, x, a) },
		func(x api.Expr) api.Expr { return node(api.Sub, a, x) },
		func(x api.Expr) api.Expr { return node(api.Cond, x, a, a) },
		func(x api.Expr) api.Expr { return node(api.Cond, a, x, a) },
		func(x api.Expr) api.Expr { return node(api.Cond, a, a, x) },
		func(x api.Expr) api.Expr { return node(api.Concat, x) },
		func(x api.Expr) api.Expr { return node(api.Repl, x, a) },
		func(x api.Expr) api.Expr { return node(api.Repl, a, x) },
		func(x api.Expr) api.Expr { return named(api.Select, "m", a, x) },
		func(x api.Expr) api.Expr { return named(api.Call, "f", x) },
		func(x api.Expr) api.Expr { return named(api.Sys, "$signed", x) },
	} {
		for _, x := range []api.Expr{a, lit("8'hx1"), named(api.Sys, "$time")} {
			for range 63 {
				x = wrap(x)
			}
			checkAgain(t, x)
		}
	}
	for _, s := range someNumbers {
		checkAgain(t, lit(s))
		checkAgain(t, node(api.Repl, lit(s), lit(s)))
		checkAgain(t, node(api.Cond, lit(s), lit(s), lit(s)))
	}
}

// P8.2: Lvalue.
func TestLvalue(t *testing.T) {
	a := ref("a")
	isLvalue := func(op uint8, n int) bool {
		switch op {
		case api.Ref, api.Select, api.Part, api.Slice, api.Concat:
			least, most := formOf(op)
			return least <= n && n <= most
		}
		return false
	}
	for op := range 256 {
		for n := range 5 {
			for _, name := range []string{"a", "", "if", "$time", "$signed"} {
				x := named(uint8(op), name, slices.Repeat([]api.Expr{a}, n)...)
				for _, y := range []api.Expr{x, node(api.Concat, x), node(api.Concat, a, a, x), node(api.Concat, x, a), node(api.Concat, a, node(api.Concat, node(api.Concat, x)))} {
					if got := expr.Lvalue(y); got != isLvalue(x.Op, n) {
						t.Fatalf("Lvalue(%v) = %t", y, got)
					}
				}
				for _, y := range []api.Expr{node(api.Plus, x), node(api.Repl, a, x), node(api.Cond, x, x, x), named(api.Call, "f", x), named(api.Sys, "$signed", x)} {
					if expr.Lvalue(y) {
						t.Fatalf("Lvalue(%v) = true", y)
					}
				}
			}
		}
	}
	for s, want := range map[string]bool{
		"a": true, "m[a + b]": true, "m[1][f(a)]": true, "m[3:0]": true, "m[a+:2]": true, "{a, m[-1], {b[1:0]}}": true, "(a)": true, "({a})": true,
		"1": false, "$time": false, "{a, 1}": false, "{a, {b, -c}}": false, "{2{a}}": false, "f(a)": false, "a + b": false, "$signed(a)": false, "c ? a : b": false, "+a": false,
	} {
		x, _, e := expr.Parse(s, 0)
		if got := expr.Lvalue(x); e != api.OK || got != want {
			t.Errorf("Lvalue of %s = %t, %d", s, got, e)
		}
	}
	deep := a
	for range 60000 {
		deep = node(api.Concat, deep)
	}
	if !expr.Lvalue(deep) {
		t.Error("Lvalue of a deep Concat is false")
	}
}

// P8.2: Names.
func TestNames(t *testing.T) {
	for s, want := range map[string]string{
		"1": "", "$time": "", "a": "a", "b + a": "b a", "a + b * a - c": "a b c", "f(b, f(a))": "f b a", "m[i][m]": "m i", "m[x:y] ? z : m[y+:w]": "m x y z w",
		"{c{b, a}}": "c b a", "$signed(a) + $time": "a", "-a[b[c[d]]]": "a b c d", "a(b) + b(a)": "a b", "x[y(x)] + y": "x y", "{z, y, x, y, z}": "z y x",
	} {
		x, _, _ := expr.Parse(s, 0)
		if got := expr.Names(x); !slices.Equal(got, strings.Fields(want)) {
			t.Errorf("Names of %s = %q, want %q", s, got, want)
		}
	}
	// The names of other operators are ignored, invalid nodes are not.
	for op := range 256 {
		x := named(uint8(op), "p", ref("q"), ref("q"), ref("r"))
		want := []string{"q", "r"}
		switch x.Op {
		case api.Ref, api.Select, api.Part, api.Slice, api.Call:
			want = []string{"p", "q", "r"}
		}
		if got := expr.Names(x); !slices.Equal(got, want) {
			t.Errorf("Names(%v) = %q, want %q", x, got, want)
		}
	}
	var l []string
	var refs []api.Expr
	for i := range 20000 {
		name := "a" + strings.Repeat("b", i%150) + strings.Repeat("c", i/150)
		l = append(l, name)
		refs = append(refs, ref(name), ref("a"))
	}
	if got := expr.Names(node(api.Concat, refs...)); !slices.Equal(got, l) {
		t.Errorf("%d names of %d", len(got), len(l))
	}
}

// wantNames are the names of x by a search without recursion.
func wantNames(x api.Expr) []string {
	var l []string
	for stack := []api.Expr{x}; len(stack) > 0; {
		y := stack[len(stack)-1]
		stack = stack[:len(stack)-1]
		for _, a := range slices.Backward(y.Args) {
			stack = append(stack, a)
		}
		if y.Name != "" && y.Name[0] != '$' && !slices.Contains(l, y.Name) {
			l = append(l, y.Name)
		}
	}
	return l
}

// P8.2: Names, Size and Equal of random expressions.
func TestRandomNamesAndSizes(t *testing.T) {
	random := rand.New(rand.NewSource(82))
	for range 5000 {
		x := randomExpr(random, 1+random.Intn(6))
		if got := expr.Names(x); !slices.Equal(got, wantNames(x)) {
			t.Fatalf("Names(%v) = %q, want %q", x, got, wantNames(x))
		}
		n, d := measure(x)
		if nodes, depth := expr.Size(x); nodes != n || depth != d {
			t.Fatalf("Size(%v) = %d, %d, want %d, %d", x, nodes, depth, n, d)
		}
		y := randomExpr(random, 1+random.Intn(2))
		if got := expr.Equal(x, y); got != same(x, y) {
			t.Fatalf("Equal(%v, %v) = %t", x, y, got)
		}
		if !expr.Equal(x, clone(x)) {
			t.Fatalf("Equal(%v) with its copy is false", x)
		}
	}
}

// P8.2: Size of valid and invalid expressions.
func TestSize(t *testing.T) {
	a := ref("a")
	for _, x := range []api.Expr{{}, a, node(0, a), node(api.Lit, a, node(255, a, a)), chain(64, a), chain(60000, a),
		node(api.Concat, slices.Repeat([]api.Expr{a}, 100000)...), node(api.Add, chain(7, a), chain(3, a)), node(api.Add, chain(3, a), chain(7, a))} {
		n, d := measure(x)
		if nodes, depth := expr.Size(x); nodes != n || depth != d {
			t.Errorf("Size = %d, %d, want %d, %d", nodes, depth, n, d)
		}
	}
}

// P8.2: Equal compares the fields that an operator uses, and no others.
func TestEqual(t *testing.T) {
	a, b := ref("a"), ref("b")
	v, w := lit("4'b1x0z").Val, lit("4'sb1x0z").Val
	for op := range 256 {
		x := api.Expr{Op: uint8(op), Name: "p", Val: v, Args: []api.Expr{a, b}}
		usesName, usesVal := false, x.Op == api.Lit
		switch x.Op {
		case api.Ref, api.Select, api.Part, api.Slice, api.Call, api.Sys:
			usesName = true
		}
		for i, c := range []struct {
			y    api.Expr
			want bool
		}{
			{x, true},
			{api.Expr{Op: x.Op, Name: "p", Val: v, Args: []api.Expr{a, b}, Sig: 1, Width: 2, Signed: true}, true},
			{api.Expr{Op: x.Op, Name: "q", Val: v, Args: []api.Expr{a, b}}, !usesName},
			{api.Expr{Op: x.Op, Name: "", Val: v, Args: []api.Expr{a, b}}, !usesName},
			{api.Expr{Op: x.Op, Name: "p", Val: w, Args: []api.Expr{a, b}}, !usesVal},
			{api.Expr{Op: x.Op, Name: "p", Val: api.Vec{Bits: v.Bits[1:]}, Args: []api.Expr{a, b}}, !usesVal},
			{api.Expr{Op: x.Op, Name: "p", Val: api.Vec{Bits: []api.Bit{2, 0, 2, 1}}, Args: []api.Expr{a, b}}, !usesVal},
			{api.Expr{Op: x.Op + 1, Name: "p", Val: v, Args: []api.Expr{a, b}}, false},
			{api.Expr{Op: x.Op, Name: "p", Val: v, Args: []api.Expr{a, a}}, false},
			{api.Expr{Op: x.Op, Name: "p", Val: v, Args: []api.Expr{b, b}}, false},
			{api.Expr{Op: x.Op, Name: "p", Val: v, Args: []api.Expr{b, a}}, false},
			{api.Expr{Op: x.Op, Name: "p", Val: v, Args: []api.Expr{a}}, false},
			{api.Expr{Op: x.Op, Name: "p", Val: v, Args: []api.Expr{a, b, b}}, false},
			{api.Expr{Op: x.Op, Name: "p", Val: v}, false},
		} {
			for _, wrap := range []func(x api.Expr) api.Expr{
				func(x api.Expr) api.Expr { return x },
				func(x api.Expr) api.Expr { return node(api.Add, a, node(api.Not, x)) },
				func(x api.Expr) api.Expr { return named(api.Call, "f", a, a, x) },
				func(x api.Expr) api.Expr { return node(api.Cond, x, x, x) },
			} {
				if expr.Equal(wrap(x), wrap(c.y)) != c.want || expr.Equal(wrap(c.y), wrap(x)) != c.want {
					t.Fatalf("case %d: Equal(%v, %v) = %t", i, wrap(x), wrap(c.y), !c.want)
				}
			}
		}
	}
	if !expr.Equal(chain(60000, a), chain(60000, a)) || expr.Equal(chain(60000, a), chain(60000, b)) || expr.Equal(chain(60000, a), chain(59999, a)) {
		t.Error("Equal of deep expressions")
	}
}

// overwrite changes every field of x and of all that it refers to.
func overwrite(x *api.Expr) {
	for i := range x.Args {
		overwrite(&x.Args[i])
	}
	for i := range x.Val.Bits {
		x.Val.Bits[i] = 77
	}
	clear(x.Args)
	*x = api.Expr{Op: 99, Name: "?", Sig: 1, Width: 1, Signed: true}
}

// P8.8: overwriting results has no effect on later ones, nor on the other parts of the
// same one.
func TestIndependence(t *testing.T) {
	for _, s := range []string{"a", "1 + 1", "{1, 1, 1}", "{2{a, 1}}", "f(1, a, 1) ? m[1:1] : m[1+:1]", "m[1][1]", "-(-(1))", "$signed(1) + $time", "a + a + a"} {
		want, next, _ := expr.Parse(s, 0)
		want = clone(want)
		x, _, _ := expr.Parse(s, 0)
		overwrite(&x)
		checkParse(t, s, 0, want, next, api.OK)
		for i := range want.Args {
			y, _, _ := expr.Parse(s, 0)
			overwrite(&y.Args[i])
			y.Args[i] = want.Args[i]
			if !same(y, want) {
				t.Fatalf("overwriting an operand of %q changes another one: %v", s, y)
			}
		}
		names := expr.Names(want)
		copied := slices.Clone(names)
		for i := range names {
			names[i] = "?"
		}
		if got := expr.Names(want); !slices.Equal(got, copied) {
			t.Errorf("Names of %q = %q, want %q", s, got, copied)
		}
	}
}

// spare gives every slice of x a following element that must not be used.
func spare(x api.Expr) api.Expr {
	x = clone(x)
	for i, a := range x.Args {
		x.Args[i] = spare(a)
	}
	x.Args = append(x.Args, named(api.Ref, "spare"))[:len(x.Args)]
	x.Val.Bits = append(x.Val.Bits, 55)[:len(x.Val.Bits)]
	return x
}

// isSpared reports whether the elements that spare has added are unchanged.
func isSpared(x api.Expr) bool {
	other := func(a api.Expr) bool { return !isSpared(a) }
	return same(x.Args[:len(x.Args)+1][len(x.Args)], ref("spare")) && x.Val.Bits[:len(x.Val.Bits)+1][len(x.Val.Bits)] == 55 && !slices.ContainsFunc(x.Args, other)
}

// R3: arguments are not modified, and nothing beyond the length of their slices is used.
func TestArguments(t *testing.T) {
	random := rand.New(rand.NewSource(88))
	for range 2000 {
		x := randomExpr(random, 1+random.Intn(5))
		for i := range x.Args {
			x.Args[i].Sig, x.Args[i].Width, x.Args[i].Signed = 3, 5, true
		}
		y := spare(x)
		s, e := expr.Format(y)
		nodes, depth := expr.Size(y)
		n, d := measure(x)
		if s != text(x) || e != api.OK || expr.Check(y) != api.OK || !expr.Equal(x, y) || !expr.Equal(y, x) || nodes != n || depth != d ||
			!slices.Equal(expr.Names(y), wantNames(x)) || expr.Lvalue(y) != expr.Lvalue(x) {
			t.Fatalf("an element beyond a slice of %v is read", x)
		}
		if !same(x, y) || !isSpared(y) {
			t.Fatalf("%v has become %v", x, y)
		}
	}
}
