package expr

import (
	"netlab/api"
	"netlab/token"
)

const maxLevel = 2 * api.MaxDepth

// parser reads tokens of s from offset at on. After an error it reads no more, so that
// its methods need not be left one by one.
type parser struct {
	s  string
	at int
	e  api.Errno
}

func (p *parser) fail(e api.Errno) {
	if p.e == api.OK {
		p.e = e
	}
}

// read consumes a token of any kind.
func (p *parser) read() token.Token {
	if p.e != api.OK {
		return token.Token{}
	}
	t, next, e := token.Next(p.s, p.at)
	if e == api.ErrNone {
		e = api.ErrShort
	}
	p.at, p.e = next, e
	return t
}

func (p *parser) expect(text string) {
	if p.e == api.OK {
		p.at, p.e = token.Take(p.s, p.at, text)
	}
}

// accept consumes the punctuation text if it is the next token.
func (p *parser) accept(text string) bool {
	found := p.e == api.OK && token.Peek(p.s, p.at, text)
	if found {
		p.expect(text)
	}
	return found
}

func (p *parser) expr(level int) api.Expr {
	x := p.binary(level)
	if !p.accept("?") {
		return x
	}
	yes := p.expr(level + 1)
	p.expect(":")
	no := p.expr(level + 1)
	return api.Expr{Op: api.Cond, Args: []api.Expr{x, yes, no}}
}

func (p *parser) binary(level int) api.Expr {
	var group func(least int) api.Expr
	group = func(least int) api.Expr {
		x := p.unary(level)
		for {
			op, next := p.binaryAhead()
			if op == 0 || precedence(op) < least {
				return x
			}
			p.at = next
			x = api.Expr{Op: op, Args: []api.Expr{x, group(precedence(op) + 1)}}
		}
	}
	return group(logicalOr)
}

// binaryAhead returns the binary operator that is the next token and the offset after
// it, or 0 if the next token is another one.
func (p *parser) binaryAhead() (op uint8, next int) {
	if p.e != api.OK {
		return 0, 0
	}
	t, next, e := token.Next(p.s, p.at)
	if e != api.OK || t.Kind != token.Punct {
		return 0, 0
	}
	return operator(t.Text, firstBinary, lastBinary), next
}

func (p *parser) unary(level int) api.Expr {
	// Every expression begins here, so that no other method checks its level.
	if level > maxLevel {
		p.fail(api.ErrLong)
	}
	t := p.read()
	if t.Kind == token.Punct {
		if op := operator(t.Text, firstUnary, lastUnary); op != 0 {
			return api.Expr{Op: op, Args: []api.Expr{p.unary(level + 1)}}
		}
	}
	return p.primary(t, level)
}

// primary parses the rest of the primary expression that begins with t.
func (p *parser) primary(t token.Token, level int) api.Expr {
	switch {
	case t.Kind == token.Number:
		return api.Expr{Op: api.Lit, Val: t.Val}
	case t.Kind == token.Ident:
		return p.named(t.Text, level+1)
	case t.Kind == token.System:
		return p.system(t.Text, level+1)
	case t.Kind == token.Punct && t.Text == "(":
		x := p.expr(level + 1)
		p.expect(")")
		return x
	case t.Kind == token.Punct && t.Text == "{":
		return p.braces(level + 1)
	}
	p.fail(api.ErrForm)
	return api.Expr{}
}

// The level of the following methods is that of the expressions within the primary one.

func (p *parser) named(name string, level int) api.Expr {
	switch {
	case p.accept("("):
		args := p.list([]api.Expr{p.expr(level)}, level)
		p.expect(")")
		return api.Expr{Op: api.Call, Name: name, Args: args}
	case p.accept("["):
		return p.indexed(name, level)
	}
	return api.Expr{Op: api.Ref, Name: name}
}

func (p *parser) indexed(name string, level int) api.Expr {
	x := api.Expr{Op: api.Select, Name: name, Args: []api.Expr{p.expr(level)}}
	switch {
	case p.accept(":"):
		x.Op = api.Part
	case p.accept("+:"):
		x.Op = api.Slice
	default:
		p.expect("]")
		if !p.accept("[") {
			return x
		}
	}
	x.Args = append(x.Args, p.expr(level))
	p.expect("]")
	return x
}

func (p *parser) system(name string, level int) api.Expr {
	x := api.Expr{Op: api.Sys, Name: name}
	n, known := systemArity(name)
	if !known {
		p.fail(api.ErrForm)
	}
	if n > 0 {
		p.expect("(")
		x.Args = []api.Expr{p.expr(level)}
		p.expect(")")
	}
	return x
}

func (p *parser) braces(level int) api.Expr {
	first := p.expr(level)
	if p.accept("{") {
		args := p.list([]api.Expr{first, p.expr(level)}, level)
		p.expect("}")
		p.expect("}")
		return api.Expr{Op: api.Repl, Args: args}
	}
	args := p.list([]api.Expr{first}, level)
	p.expect("}")
	return api.Expr{Op: api.Concat, Args: args}
}

// list appends the expressions that follow the first one of a list.
func (p *parser) list(l []api.Expr, level int) []api.Expr {
	for p.accept(",") {
		l = append(l, p.expr(level))
	}
	return l
}
