package token

import "strings"

const (
	// marks are the bytes that are punctuation by themselves. Longer punctuation
	// begins with one of them, too.
	marks = "+-*/%<>!~&|^?:;,.()[]{}#@="
	// maxPunct is the length of the longest punctuation.
	maxPunct = 3
)

func isPunct(s string) bool {
	switch s {
	case "<<<", ">>>", "===", "!==",
		"<<", ">>", "<=", ">=", "==", "!=", "&&", "||", "**", "~&", "~|", "~^", "+:":
		return true
	}
	return len(s) == 1 && strings.Contains(marks, s)
}

func IsKeyword(s string) bool {
	switch s {
	case "always", "and", "assign", "begin", "buf", "bufif0", "bufif1", "case", "casex", "casez",
		"default", "else", "end", "endcase", "endfunction", "endmodule", "endtask",
		"for", "forever", "function", "genvar", "highz0", "highz1",
		"if", "initial", "input", "integer", "large0", "large1", "localparam",
		"medium0", "medium1", "module", "nand", "negedge", "nor", "not", "notif0", "notif1",
		"or", "output", "parameter", "posedge", "pull0", "pull1",
		"reg", "repeat", "signed", "small0", "small1", "strong0", "strong1", "supply0", "supply1",
		"task", "tri0", "tri1", "wait", "wand", "weak0", "weak1", "while", "wire", "wor",
		"xnor", "xor":
		return true
	}
	return false
}
