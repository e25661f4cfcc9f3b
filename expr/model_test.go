package expr_test

import (
	"math/rand"
	"slices"
	"strings"

	"netlab/api"
	"netlab/token"
	"netlab/vec"
)

// The expected expressions are those of a model that works on lists of words, each of
// which is a token or a malformed one. Whether a word fits is decided by the constructs
// that are open before it (reader); the expression is then found by splitting the words
// at their loosest operator (tree).

// unaryWords are the unary operators by their text.
var unaryWords = map[string]uint8{
	"+": api.Plus, "-": api.Minus, "!": api.LNot, "~": api.Not,
	"&": api.RedAnd, "|": api.RedOr, "^": api.RedXor, "~&": api.RedNand, "~|": api.RedNor, "~^": api.RedXnor,
}

// binaryWords are the binary operators by their text.
var binaryWords = map[string]uint8{
	"+": api.Add, "-": api.Sub, "*": api.Mul, "/": api.Div, "%": api.Mod, "**": api.Pow,
	"==": api.Eq, "!=": api.Ne, "===": api.CaseEq, "!==": api.CaseNe, "<": api.Lt, "<=": api.Le, ">": api.Gt, ">=": api.Ge,
	"&&": api.LAnd, "||": api.LOr, "&": api.And, "|": api.Or, "^": api.Xor, "~^": api.Xnor,
	"<<": api.Shl, ">>": api.Shr, "<<<": api.AShl, ">>>": api.AShr,
}

// levels are the binary operators from the loosest level to the tightest.
var levels = [][]string{
	{"||"}, {"&&"}, {"|"}, {"^", "~^"}, {"&"}, {"==", "!=", "===", "!=="}, {"<", "<=", ">", ">="},
	{"<<", ">>", "<<<", ">>>"}, {"+", "-"}, {"*", "/", "%"}, {"**"},
}

// malformed are words at which token.Next fails.
var malformed = map[string]api.Errno{
	"$": api.ErrForm, "`": api.ErrForm, "1a": api.ErrForm, "4'q": api.ErrForm, "0'b1": api.ErrWidth, "129'd1": api.ErrWidth, "2147483648": api.ErrLong,
}

const operands = "end name index" // the states of a reader after an operand

// reader is the state of the model between two words. The constructs that are open
// around the next word are named by their words up to it.
type reader struct {
	open  []string
	state string
}

func isName(word string) bool {
	return strings.Trim(word, "abcdefghijklmnopqrstuvwxyz_$0123456789") == "" && !strings.Contains("$0123456789", word[:1]) && !token.IsKeyword(word)
}

func isNumber(word string) bool {
	return strings.Contains("0123456789'", word[:1]) && malformed[word] == api.OK
}

// close drops the innermost constructs that are of the given kinds, as they end there.
func (r *reader) close(kinds ...string) {
	for len(r.open) > 0 && slices.Contains(kinds, r.open[len(r.open)-1]) {
		r.open = r.open[:len(r.open)-1]
	}
}

// enter opens a construct in which an expression follows.
func (r *reader) enter(construct string) bool {
	r.open = append(r.open, construct)
	r.state = "operand"
	return true
}

func (r *reader) isComplete() bool {
	opened := func(construct string) bool { return construct != "unary" && construct != "else" }
	return strings.Contains(operands, r.state) && !slices.ContainsFunc(r.open, opened)
}

// take reads a word and reports whether it fits.
func (r *reader) take(word string) bool {
	switch r.state {
	case "operand":
		return r.takeOperand(word)
	case "argument":
		return word == "(" && r.enter("$(")
	case "brace":
		r.state = "end"
		return word == "}"
	case "name":
		if word == "(" || word == "[" {
			return r.enter("name" + word)
		}
	case "index":
		if word == "[" {
			return r.enter("name[]" + word)
		}
	}
	r.close("unary")
	if binaryWords[word] != 0 {
		r.state = "operand"
		return true
	}
	if word == "?" {
		return r.enter("then")
	}
	r.close("else", "unary")
	return len(r.open) > 0 && r.takeEnd(word)
}

func (r *reader) takeOperand(word string) bool {
	switch {
	case unaryWords[word] != 0:
		return r.enter("unary")
	case word == "(" || word == "{":
		return r.enter(word)
	case word == "$signed" || word == "$unsigned":
		r.state = "argument"
	case isName(word):
		r.state = "name"
	case isNumber(word) || word == "$time":
		r.state = "end"
	default:
		return false
	}
	return true
}

// takeEnd reads a word after which the innermost construct has ended or goes on.
func (r *reader) takeEnd(word string) bool {
	construct := r.open[len(r.open)-1]
	r.open = r.open[:len(r.open)-1]
	r.state = "end"
	switch construct + word {
	case "()", "$()", "name()", "{}", "{,}", "name[:]", "name[][]":
		return true
	case "name[]":
		r.state = "index"
		return true
	case "{{}":
		r.state = "brace"
		return true
	case "then:":
		return r.enter("else")
	case "name[:", "name[+:":
		return r.enter("name[:")
	case "{,", "{,,":
		return r.enter("{,")
	case "{{":
		return r.enter("{{")
	case "name(,", "{{,":
		return r.enter(construct)
	}
	return false
}

// wantCount is the number of words that Parse reads, without the errors of Check.
func wantCount(words []string) (int, api.Errno) {
	r := reader{state: "operand"}
	for i, word := range append(slices.Clone(words), "") {
		e := api.ErrForm
		switch {
		case r.state == "operand" && len(r.open) >= 128:
			return 0, api.ErrLong
		case i == len(words):
			e = api.ErrShort
		case malformed[word] != api.OK:
			e = malformed[word]
		}
		// Only what is open before the word decides whether the expression is complete.
		complete := r.isComplete()
		if i < len(words) && malformed[word] == api.OK && r.take(word) {
			continue
		}
		if complete {
			return i, api.OK
		}
		return 0, e
	}
	return 0, api.ErrShort
}

// wantParse is what Parse returns for words, with the number of words read.
func wantParse(words []string) (api.Expr, int, api.Errno) {
	count, e := wantCount(words)
	if e != api.OK {
		return api.Expr{}, 0, e
	}
	x := tree(words[:count])
	if nodes, depth := measure(x); nodes > 4096 || depth > 64 {
		return api.Expr{}, 0, api.ErrLong
	}
	return x, count, api.OK
}

// outer are the indices of the words that are within no brackets.
func outer(words []string) []int {
	var l []int
	depth := 0
	for i, word := range words {
		if strings.Contains(")}]", word) {
			depth--
		}
		if depth == 0 {
			l = append(l, i)
		}
		if strings.Contains("({[", word) {
			depth++
		}
	}
	return l
}

// endsOperand reports whether an operand may end with the word.
func endsOperand(word string) bool {
	return isName(word) || isNumber(word) || word == "$time" || strings.Contains(")}]", word)
}

// colon is the index of the first outer colon that belongs to no question mark, or -1.
func colon(words []string) int {
	open := 0
	for _, i := range outer(words) {
		switch {
		case words[i] == "?":
			open++
		case words[i] == ":" && open == 0:
			return i
		case words[i] == ":":
			open--
		}
	}
	return -1
}

func node(op uint8, args ...api.Expr) api.Expr { return api.Expr{Op: op, Args: args} }

func named(op uint8, name string, args ...api.Expr) api.Expr {
	return api.Expr{Op: op, Name: name, Args: args}
}

func ref(name string) api.Expr { return named(api.Ref, name) }

// lit is the literal that is written as text.
func lit(text string) api.Expr {
	t, _, e := token.Next(text, 0)
	if e != api.OK || t.Kind != token.Number {
		panic("no number: " + text)
	}
	return api.Expr{Op: api.Lit, Val: t.Val}
}

// tree is the expression that consists of all words.
func tree(words []string) api.Expr {
	places := outer(words)
	for _, i := range places {
		if words[i] == "?" {
			after := words[i+1:]
			c := colon(after)
			return node(api.Cond, tree(words[:i]), tree(after[:c]), tree(after[c+1:]))
		}
	}
	for _, level := range levels {
		for _, i := range slices.Backward(places) {
			if i > 0 && slices.Contains(level, words[i]) && endsOperand(words[i-1]) {
				return node(binaryWords[words[i]], tree(words[:i]), tree(words[i+1:]))
			}
		}
	}
	if op := unaryWords[words[0]]; op != 0 {
		return node(op, tree(words[1:]))
	}
	return primaryTree(words)
}

func primaryTree(words []string) api.Expr {
	word, last := words[0], len(words)-1
	switch {
	case isNumber(word):
		return lit(word)
	case word == "$time":
		return named(api.Sys, word)
	case word[0] == '$':
		return named(api.Sys, word, tree(words[2:last]))
	case word == "(":
		return tree(words[1:last])
	case word == "{":
		return bracesTree(words[1:last])
	case last == 0:
		return ref(word)
	case words[1] == "(":
		return named(api.Call, word, trees(words[2:last])...)
	}
	return indexedTree(word, words[2:last])
}

// bracesTree is the concatenation or replication with the words between its braces.
func bracesTree(words []string) api.Expr {
	for _, i := range outer(words) {
		if i > 0 && words[i] == "{" && endsOperand(words[i-1]) {
			items := trees(words[i+1 : len(words)-1])
			return node(api.Repl, append([]api.Expr{tree(words[:i])}, items...)...)
		}
	}
	return node(api.Concat, trees(words)...)
}

// indexedTree is the expression with the words between the first and the last bracket.
func indexedTree(name string, words []string) api.Expr {
	depth := 0
	for i, word := range words {
		if strings.Contains("({[", word) {
			depth++
		}
		if strings.Contains(")}]", word) {
			depth--
		}
		if depth < 0 {
			return named(api.Select, name, tree(words[:i]), tree(words[i+2:]))
		}
	}
	for _, i := range outer(words) {
		if words[i] == "+:" {
			return named(api.Slice, name, tree(words[:i]), tree(words[i+1:]))
		}
	}
	if i := colon(words); i >= 0 {
		return named(api.Part, name, tree(words[:i]), tree(words[i+1:]))
	}
	return named(api.Select, name, tree(words))
}

// trees are the expressions between the outer commas.
func trees(words []string) []api.Expr {
	var l []api.Expr
	start := 0
	for _, i := range outer(words) {
		if words[i] == "," {
			l = append(l, tree(words[start:i]))
			start = i + 1
		}
	}
	return append(l, tree(words[start:]))
}

// measure is the number of nodes and the depth of x.
func measure(x api.Expr) (nodes, depth int) {
	level := []api.Expr{x}
	for len(level) > 0 {
		nodes += len(level)
		depth++
		var below []api.Expr
		for _, y := range level {
			below = append(below, y.Args...)
		}
		level = below
	}
	return nodes, depth
}

// same compares all fields.
func same(x, y api.Expr) bool {
	return x.Op == y.Op && x.Name == y.Name && vec.Same(x.Val, y.Val) && x.Sig == y.Sig && x.Width == y.Width && x.Signed == y.Signed &&
		slices.EqualFunc(x.Args, y.Args, same)
}

// isZero reports whether x has no field that is set.
func isZero(x api.Expr) bool { return same(x, api.Expr{}) }

// clone copies x and all that it refers to.
func clone(x api.Expr) api.Expr {
	x.Val.Bits = slices.Clone(x.Val.Bits)
	x.Args = slices.Clone(x.Args)
	for i, a := range x.Args {
		x.Args[i] = clone(a)
	}
	return x
}

// signOf is the text of an operator of the table.
func signOf(table map[string]uint8, op uint8) string {
	for s, o := range table {
		if o == op {
			return s
		}
	}
	return ""
}

// text is the text of a valid expression.
func text(x api.Expr) string {
	var args []string
	for _, a := range x.Args {
		args = append(args, text(a))
	}
	switch x.Op {
	case api.Lit:
		s, _ := token.Format(token.Token{Kind: token.Number, Val: x.Val})
		return s
	case api.Ref:
		return x.Name
	case api.Select:
		return x.Name + "[" + strings.Join(args, "][") + "]"
	case api.Part:
		return x.Name + "[" + args[0] + ":" + args[1] + "]"
	case api.Slice:
		return x.Name + "[" + args[0] + "+:" + args[1] + "]"
	case api.Concat:
		return "{" + strings.Join(args, ", ") + "}"
	case api.Repl:
		return "{" + args[0] + "{" + strings.Join(args[1:], ", ") + "}}"
	case api.Call:
		return x.Name + "(" + strings.Join(args, ", ") + ")"
	case api.Sys:
		if len(args) == 0 {
			return x.Name
		}
		return x.Name + "(" + args[0] + ")"
	case api.Cond:
		return "(" + args[0] + " ? " + args[1] + " : " + args[2] + ")"
	}
	if len(args) == 1 {
		return "(" + signOf(unaryWords, x.Op) + args[0] + ")"
	}
	return "(" + args[0] + " " + signOf(binaryWords, x.Op) + " " + args[1] + ")"
}

// writing turns expressions into words, with no more parentheses than needed but for
// those that it adds by chance.
type writing struct{ random *rand.Rand }

// words are the words of x as an operand that needs parentheses if it is looser than
// least: 0 is the level of the conditional operator, 1 to 11 are those of the binary
// operators, 12 is that of the unary ones.
func (w writing) words(x api.Expr, least int) []string {
	level := levelOf(x)
	if level < least || w.random != nil && w.random.Intn(12) == 0 {
		return slices.Concat([]string{"("}, w.words(x, 0), []string{")"})
	}
	sub := func(i, least int) []string { return w.words(x.Args[i], least) }
	switch {
	case level == 0:
		return slices.Concat(sub(0, 1), []string{"?"}, sub(1, 0), []string{":"}, sub(2, 0))
	case level < 12:
		return slices.Concat(sub(0, level), []string{signOf(binaryWords, x.Op)}, sub(1, level+1))
	case level == 12:
		return append([]string{signOf(unaryWords, x.Op)}, sub(0, 12)...)
	}
	return w.primary(x)
}

func (w writing) primary(x api.Expr) []string {
	list := func(open string, l []api.Expr, separator, end string) []string {
		s := strings.Fields(open)
		for i, a := range l {
			if i > 0 {
				s = append(s, strings.Fields(separator)...)
			}
			s = append(s, w.words(a, 0)...)
		}
		return append(s, strings.Fields(end)...)
	}
	switch x.Op {
	case api.Lit, api.Ref:
		return []string{text(x)}
	case api.Select:
		return list(x.Name+" [", x.Args, "] [", "]")
	case api.Part:
		return list(x.Name+" [", x.Args, ":", "]")
	case api.Slice:
		return list(x.Name+" [", x.Args, "+:", "]")
	case api.Concat:
		return list("{", x.Args, ",", "}")
	case api.Repl:
		return slices.Concat(list("{", x.Args[:1], "", ""), list("{", x.Args[1:], ",", "} }"))
	}
	if len(x.Args) == 0 {
		return []string{x.Name}
	}
	return list(x.Name+" (", x.Args, ",", ")")
}

func levelOf(x api.Expr) int {
	switch s := signOf(binaryWords, x.Op); {
	case x.Op == api.Cond:
		return 0
	case s != "":
		return 1 + slices.IndexFunc(levels, func(l []string) bool { return slices.Contains(l, s) })
	case signOf(unaryWords, x.Op) != "":
		return 12
	}
	return 13
}

// tight joins words with separators only where they would be other tokens without.
func tight(words []string) string {
	s := ""
	for i, word := range words {
		if i > 0 {
			if l, e := token.All(words[i-1] + word); e != api.OK || len(l) != 2 {
				s += " "
			}
		}
		s += word
	}
	return s
}

// spread joins words with separators, and returns the offset after the last word.
func spread(random *rand.Rand, words []string) (string, int) {
	separator := func() string {
		s := " \t\r\n"[random.Intn(4):][:1]
		for range random.Intn(3) {
			s += []string{" ", "\t\r\n", "// ) ? \" /*\n", "/**/", "/* // */", "/* + b\n */"}[random.Intn(6)]
		}
		return s
	}
	s := separator()
	next := len(s)
	for _, word := range words {
		s += word
		next = len(s)
		s += separator()
	}
	return s, next
}

var someNames = []string{"a", "b", "m", "x0", "_", "a$1", "begins", "e1", "z"}

var someNumbers = []string{"0", "1", "25", "2147483647", "4'b1x0z", "1'sb1", "8'shff", "'hz", "3'd9", "32'd7", "32'sd7", "32'shffffffff", "33'sd1", "'sd5", "128'hx", "6'o7?", "8'hzX"}

// pick is one of l.
func pick[T any](random *rand.Rand, l ...T) T { return l[random.Intn(len(l))] }

// randomExpr is a valid expression of at most that depth.
func randomExpr(random *rand.Rand, depth int) api.Expr {
	if depth <= 1 {
		return pick(random, ref(pick(random, someNames...)), lit(pick(random, someNumbers...)), named(api.Sys, "$time"))
	}
	args := func(n int) []api.Expr {
		l := make([]api.Expr, n)
		for i := range l {
			l[i] = randomExpr(random, depth-1-random.Intn(2))
		}
		return l
	}
	name := pick(random, someNames...)
	switch random.Intn(14) {
	case 0:
		return named(api.Select, name, args(1+random.Intn(2))...)
	case 1:
		return named(pick(random, api.Part, api.Slice), name, args(2)...)
	case 2:
		return node(api.Concat, args(1+random.Intn(3))...)
	case 3:
		return node(api.Repl, args(2+random.Intn(2))...)
	case 4:
		return named(api.Call, name, args(1+random.Intn(3))...)
	case 5:
		return named(api.Sys, pick(random, "$signed", "$unsigned"), args(1)...)
	case 6, 7:
		return node(api.Cond, args(3)...)
	case 8, 9, 10:
		return node(api.Plus+uint8(random.Intn(10)), args(1)...)
	}
	return node(api.Add+uint8(random.Intn(24)), args(2)...)
}
