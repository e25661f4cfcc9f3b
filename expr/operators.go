package expr

import (
	"math"

	"netlab/api"
)

// Package api numbers the operators of a class one after another.
const (
	firstUnary  = api.Plus
	lastUnary   = api.RedXnor
	firstBinary = api.Add
	lastBinary  = api.AShr
)

// Levels of precedence of the binary operators, from the loosest to the tightest.
const (
	logicalOr = 1 + iota
	logicalAnd
	bitOr
	bitXor
	bitAnd
	equality
	comparison
	shift
	sum
	product
	power
)

// signs are the texts of the unary and then of the binary operators, in api's order.
var signs = [...]string{
	"+", "-", "!", "~", "&", "|", "^", "~&", "~|", "~^",
	"+", "-", "*", "/", "%", "**",
	"==", "!=", "===", "!==", "<", "<=", ">", ">=", "&&", "||",
	"&", "|", "^", "~^", "<<", ">>", "<<<", ">>>",
}

func sign(op uint8) string { return signs[op-firstUnary] }

// operator is the operator from first to last that is written as text, or 0.
func operator(text string, first, last uint8) uint8 {
	for op := first; op <= last; op++ {
		if sign(op) == text {
			return op
		}
	}
	return 0
}

func isKnown(op uint8) bool  { return api.Lit <= op && op <= lastBinary }
func isUnary(op uint8) bool  { return firstUnary <= op && op <= lastUnary }
func isBinary(op uint8) bool { return firstBinary <= op && op <= lastBinary }

// isNamed reports whether Name is an identifier.
func isNamed(op uint8) bool {
	switch op {
	case api.Ref, api.Select, api.Part, api.Slice, api.Call:
		return true
	}
	return false
}

// precedence is the level of a binary operator.
func precedence(op uint8) int {
	switch {
	case op <= api.Sub:
		return sum
	case op <= api.Mod:
		return product
	case op == api.Pow:
		return power
	case op <= api.CaseNe:
		return equality
	case op <= api.Ge:
		return comparison
	case op == api.LAnd:
		return logicalAnd
	case op == api.LOr:
		return logicalOr
	case op == api.And:
		return bitAnd
	case op == api.Or:
		return bitOr
	case op <= api.Xnor:
		return bitXor
	}
	return shift
}

// arity returns the bounds of the number of Args of a known operator other than Sys.
func arity(op uint8) (least, most int) {
	switch op {
	case api.Lit, api.Ref:
		return 0, 0
	case api.Select:
		return 1, 2
	case api.Concat, api.Call:
		return 1, math.MaxInt
	case api.Repl:
		return 2, math.MaxInt
	case api.Cond:
		return 3, 3
	}
	if isUnary(op) {
		return 1, 1
	}
	return 2, 2
}

// systemArity is the number of arguments of a system function.
func systemArity(name string) (n int, known bool) {
	switch name {
	case "$time":
		return 0, true
	case "$signed", "$unsigned":
		return 1, true
	}
	return 0, false
}
