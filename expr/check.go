package expr

import (
	"netlab/api"
	"netlab/token"
	"netlab/vec"
)

// fits reports whether x respects MaxNodes and MaxDepth. It does not count beyond them,
// since Args that share memory can form far more nodes than they occupy.
func fits(x api.Expr) bool {
	nodes := 0
	var visit func(x api.Expr, depth int) bool
	visit = func(x api.Expr, depth int) bool {
		nodes++
		if nodes > api.MaxNodes || depth > api.MaxDepth {
			return false
		}
		for _, a := range x.Args {
			if !visit(a, depth+1) {
				return false
			}
		}
		return true
	}
	return visit(x, 1)
}

func checkNodes(x api.Expr) api.Errno {
	if e := checkNode(x); e != api.OK {
		return e
	}
	for _, a := range x.Args {
		if e := checkNodes(a); e != api.OK {
			return e
		}
	}
	return api.OK
}

// checkNode validates x without its Args.
func checkNode(x api.Expr) api.Errno {
	switch {
	case !isKnown(x.Op):
		return api.ErrKind
	case !hasArity(x), isNamed(x.Op) && !isIdentifier(x.Name):
		return api.ErrForm
	case x.Op == api.Lit:
		return vec.Check(x.Val)
	}
	return api.OK
}

// hasArity reports whether x has as many Args as its operator, which is a known one, or
// its system function asks for.
func hasArity(x api.Expr) bool {
	if x.Op == api.Sys {
		n, known := systemArity(x.Name)
		return known && len(x.Args) == n
	}
	least, most := arity(x.Op)
	return least <= len(x.Args) && len(x.Args) <= most
}

// isIdentifier relies on Format because the functions that read tokens bound the length
// of their text.
func isIdentifier(name string) bool {
	_, e := token.Format(token.Token{Kind: token.Ident, Text: name})
	return e == api.OK
}
