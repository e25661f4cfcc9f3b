package token

import (
	"strings"

	"netlab/api"
	"netlab/literal"
)

const (
	letters = "abcdefghijklmnopqrstuvwxyzABCDEFGHIJKLMNOPQRSTUVWXYZ"
	digits  = "0123456789"
)

// class is a class of tokens that is recognized by the first byte. Its lexer reads
// the token with which s begins.
type class struct {
	first string
	read  func(s string) (t Token, length int, e api.Errno)
}

func classes() [5]class {
	return [...]class{
		{letters + "_", readWord},
		{"$", readSystem},
		{digits + "'", readNumber},
		{`"`, readString},
		{marks, readPunct},
	}
}

// lex reads the token with which s begins; s is not empty.
func lex(s string) (t Token, length int, e api.Errno) {
	for _, c := range classes() {
		if strings.IndexByte(c.first, s[0]) >= 0 {
			return c.read(s)
		}
	}
	return Token{}, 0, api.ErrForm
}

// nameOf is the longest name with which s begins, or "" if there is none.
func nameOf(s string) string {
	if s == "" || strings.IndexByte(letters+"_", s[0]) < 0 {
		return ""
	}
	return s[:len(s)-len(strings.TrimLeft(s, letters+digits+"_$"))]
}

func readWord(s string) (Token, int, api.Errno) {
	word := nameOf(s)
	if IsKeyword(word) {
		return Token{Kind: Keyword, Text: word}, len(word), api.OK
	}
	return Token{Kind: Ident, Text: word}, len(word), api.OK
}

func readSystem(s string) (Token, int, api.Errno) {
	name := nameOf(s[1:])
	if name == "" {
		return Token{}, 0, api.ErrForm
	}
	return Token{Kind: System, Text: "$" + name}, 1 + len(name), api.OK
}

func readNumber(s string) (Token, int, api.Errno) {
	v, length, e := literal.Parse(s, 0)
	return Token{Kind: Number, Val: v}, length, e
}

func readString(s string) (Token, int, api.Errno) {
	var text []byte
	for i := 1; i < len(s); i++ {
		c := s[i]
		switch {
		case c == '"':
			return Token{Kind: String, Text: string(text)}, i + 1, api.OK
		case !isPrintable(c):
			return Token{}, 0, api.ErrForm
		case c == '\\':
			i++
			if i == len(s) {
				return Token{}, 0, api.ErrShort
			}
			code := strings.IndexByte(escapes, s[i])
			if code < 0 {
				return Token{}, 0, api.ErrForm
			}
			c = escaped[code]
		}
		text = append(text, c)
	}
	return Token{}, 0, api.ErrShort
}

func readPunct(s string) (Token, int, api.Errno) {
	length := min(maxPunct, len(s))
	for !isPunct(s[:length]) {
		length--
	}
	return Token{Kind: Punct, Text: s[:length]}, length, api.OK
}
