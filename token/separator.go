package token

import (
	"strings"

	"netlab/api"
)

// skip is the offset after the separators at offset at.
func skip(s string, at int) (int, api.Errno) {
	for at < len(s) {
		switch rest := s[at:]; {
		case strings.IndexByte(" \t\r\n", s[at]) >= 0:
			at++
		case strings.HasPrefix(rest, "//") || strings.HasPrefix(rest, "/*"):
			length, closed := comment(rest)
			if !closed {
				return 0, api.ErrShort
			}
			at += length
		default:
			return at, api.OK
		}
	}
	return at, api.OK
}

// comment is the length of the comment with which s begins. The end of the text
// closes it only if the end of the line would.
func comment(s string) (length int, closed bool) {
	block := s[1] == '*'
	length, closed = len(s), !block
search:
	for i := len("/*"); i < len(s); i++ {
		switch {
		case !block && s[i] == '\n':
			length = i + 1
			break search
		case block && strings.HasPrefix(s[i:], "*/"):
			length, closed = i+len("*/"), true
			break search
		}
	}
	return length, closed
}
