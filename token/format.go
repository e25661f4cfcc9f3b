package token

import (
	"strings"

	"netlab/api"
	"netlab/literal"
	"netlab/vec"
)

const (
	// escapes are the characters that follow a backslash in a string, and escaped the
	// bytes for which they stand, in the same order.
	escapes = `nt\"`
	escaped = "\n\t\\\""
	// plainWidth is the width of a literal without base.
	plainWidth = 32
)

func Format(t Token) (string, api.Errno) {
	switch t.Kind {
	case Ident, Keyword, System, Punct:
		return formatText(t)
	case Number:
		return formatNumber(t.Val)
	case String:
		return formatString(t.Text)
	}
	return "", api.ErrKind
}

func Join(l []Token) (string, api.Errno) {
	texts := make([]string, len(l))
	for i, t := range l {
		s, e := Format(t)
		if e != api.OK {
			return "", e
		}
		texts[i] = s
	}
	text := strings.Join(texts, " ")
	if len(text) > api.MaxSource {
		return "", api.ErrLong
	}
	return text, api.OK
}

// formatText writes a token whose text is written as it is.
func formatText(t Token) (string, api.Errno) {
	if t.Text == "" {
		return "", api.ErrForm
	}
	read, length, e := lex(t.Text)
	if e != api.OK || read.Kind != t.Kind || length < len(t.Text) {
		return "", api.ErrForm
	}
	return t.Text, api.OK
}

func formatNumber(v api.Vec) (string, api.Errno) {
	n, known := vec.Int(v)
	if known && n >= 0 && v.Signed && len(v.Bits) == plainWidth {
		return literal.Digits(v, 'd')
	}
	return literal.Format(v, 'b')
}

func formatString(text string) (string, api.Errno) {
	s := []byte{'"'}
	for _, c := range []byte(text) {
		code := strings.IndexByte(escaped, c)
		switch {
		case code >= 0:
			s = append(s, '\\', escapes[code])
		case isPrintable(c):
			s = append(s, c)
		default:
			return "", api.ErrForm
		}
	}
	return string(append(s, '"')), api.OK
}

func isPrintable(c byte) bool { return ' ' <= c && c <= '~' }
