package expr

import (
	"netlab/api"
	"netlab/token"
)

// writer collects the text of a valid expression. It does not grow beyond MaxSource,
// since many nodes can share the memory of one long name.
type writer struct {
	text []byte
	long bool
}

func (w *writer) put(s string) {
	w.long = w.long || len(w.text)+len(s) > api.MaxSource
	if !w.long {
		w.text = append(w.text, s...)
	}
}

// list writes the texts of l with separators between them.
func (w *writer) list(open string, l []api.Expr, separator, end string) {
	w.put(open)
	for i, x := range l {
		if i > 0 {
			w.put(separator)
		}
		w.expr(x)
	}
	w.put(end)
}

func (w *writer) expr(x api.Expr) {
	switch {
	case x.Op == api.Cond:
		w.list("(", x.Args[:1], "", " ? ")
		w.list("", x.Args[1:], " : ", ")")
	case isUnary(x.Op):
		w.list("("+sign(x.Op), x.Args, "", ")")
	case isBinary(x.Op):
		w.list("(", x.Args, " "+sign(x.Op)+" ", ")")
	default:
		w.primary(x)
	}
}

func (w *writer) primary(x api.Expr) {
	switch x.Op {
	case api.Lit:
		// A valid vector has a text.
		text, _ := token.Format(token.Token{Kind: token.Number, Val: x.Val})
		w.put(text)
	case api.Concat:
		w.list("{", x.Args, ", ", "}")
	case api.Repl:
		w.list("{", x.Args[:1], "", "")
		w.list("{", x.Args[1:], ", ", "}}")
	default:
		w.put(x.Name)
		w.operands(x)
	}
}

// operands writes what follows the name of x.
func (w *writer) operands(x api.Expr) {
	switch {
	case len(x.Args) == 0:
	case x.Op == api.Select:
		w.list("[", x.Args, "][", "]")
	case x.Op == api.Part:
		w.list("[", x.Args, ":", "]")
	case x.Op == api.Slice:
		w.list("[", x.Args, "+:", "]")
	default:
		w.list("(", x.Args, ", ", ")")
	}
}
