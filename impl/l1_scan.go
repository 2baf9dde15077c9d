// Package impl: the language of actions.
package impl

import (
	"iter"
	"math"
	"strconv"
	"strings"
)

// Limits of texts and names.
const (
	MaxSrc  = 12000
	MaxName = 30
	MaxText = 3000
	MaxPath = 60
)

// Types.
const (
	TypeNone = 0
	TypeBool = 1
	TypeText = 2
	TypeU8   = 3
	TypeU16  = 4
	TypeU32  = 5
	TypeU64  = 6
	TypeI8   = 7
	TypeI16  = 8
	TypeI32  = 9
	TypeI64  = 10
)

// Kinds of tokens.
const (
	TokName = 1
	TokWord = 2
	TokInt  = 3
	TokText = 4
	TokMark = 5
)

// Codes of the faults of a text.
const (
	faultSrc  = 1
	faultByte = 2
	faultInt  = 3
	faultText = 4
	faultLong = 5
)

// shortMarks are the marks of one byte.
const shortMarks = "(){},;=<>+-*/%&|^!~"

// greatest is the greatest number of each integer type.
var greatest = [TypeI64 + 1]uint64{
	TypeU8:  math.MaxUint8,
	TypeU16: math.MaxUint16,
	TypeU32: math.MaxUint32,
	TypeU64: math.MaxUint64,
	TypeI8:  math.MaxInt8,
	TypeI16: math.MaxInt16,
	TypeI32: math.MaxInt32,
	TypeI64: math.MaxInt64,
}

// Fault is what is wrong with a text or a tree, and where.
type Fault struct {
	Code int
	At   int
}

// Token is a piece of a program's text.
type Token struct {
	Kind int
	Text string
	Type int
	N    int64
	At   int
}

// piece is what a reader finds at the beginning of a text: a token and how many bytes it takes there, or the code of a fault and nothing else.
type piece struct {
	tok  Token
	size int
	code int
}

// Scan reads the tokens of a text.
func Scan(src string) ([]Token, Fault) {
	if len(src) > MaxSrc {
		return nil, Fault{Code: faultSrc}
	}
	var list []Token
	for tok, code := range tokens(src) {
		if code != 0 {
			return nil, Fault{Code: code, At: tok.At}
		}
		list = append(list, tok)
	}
	return list, Fault{}
}

// tokens hands out the tokens of a text, each with code 0; a token that is wrong comes as the last one, with its code and its At alone.
func tokens(src string) iter.Seq2[Token, int] {
	return func(yield func(Token, int) bool) {
		words := takenWords()
		at := 0
	reading:
		for at < len(src) {
			var p piece
			switch c := rune(src[at]); {
			case c == ' ' || c == '\n':
				at++
				continue reading
			case c == '#':
				end := strings.IndexByte(src[at:], '\n')
				if end < 0 {
					break reading
				}
				at += end
				continue reading
			case isLetter(c):
				p = readName(src[at:], words)
			case isDigit(c):
				p = readInt(src[at:], words)
			case c == '"':
				p = readText(src[at:])
			default:
				p = readMark(src[at:])
			}
			p.tok.At = at
			if !yield(p.tok, p.code) || p.code != 0 {
				return
			}
			at += p.size
		}
	}
}

// takenWords are the words that are no names, each with the type that it is the word of.
func takenWords() map[string]int {
	return map[string]int{
		"bool": TypeBool, "text": TypeText,
		"u8": TypeU8, "u16": TypeU16, "u32": TypeU32, "u64": TypeU64,
		"i8": TypeI8, "i16": TypeI16, "i32": TypeI32, "i64": TypeI64,
		"fn": TypeNone, "let": TypeNone, "if": TypeNone, "else": TypeNone,
		"while": TypeNone, "break": TypeNone, "continue": TypeNone,
		"return": TypeNone, "fail": TypeNone, "write": TypeNone, "say": TypeNone,
		"true": TypeNone, "false": TypeNone,
		"read": TypeNone, "has": TypeNone, "list": TypeNone, "tool": TypeNone,
		"arg": TypeNone, "len": TypeNone, "at": TypeNone, "cut": TypeNone,
		"find": TypeNone, "chr": TypeNone, "dec": TypeNone, "num": TypeNone,
	}
}

// readName reads a name or a taken word.
func readName(rest string, words map[string]int) piece {
	size := wordSize(rest)
	if size > MaxName {
		return piece{code: faultLong}
	}
	kind := TokName
	if _, taken := words[rest[:size]]; taken {
		kind = TokWord
	}
	return piece{tok: Token{Kind: kind, Text: strings.Clone(rest[:size])}, size: size}
}

// readInt reads a number and the word of its type.
func readInt(rest string, words map[string]int) piece {
	size := wordSize(rest)
	digits := digitsSize(rest[:size])
	if digits > 1 && rest[0] == '0' {
		return piece{code: faultInt}
	}
	numType := TypeI64
	if digits < size {
		numType = words[rest[digits:size]]
	}
	n, err := strconv.ParseUint(rest[:digits], 10, 64)
	// The greatest number would let a 0 pass where the word is that of no integer type.
	if numType < TypeU8 || err != nil || n > greatest[numType] {
		return piece{code: faultInt}
	}
	return piece{tok: Token{Kind: TokInt, Type: numType, N: int64(n)}, size: size}
}

// readText reads a text in quotes.
func readText(rest string) piece {
	text, size := unquoted(rest)
	switch {
	case size == 0:
		return piece{code: faultText}
	case len(text) > MaxText:
		// A text is measured only once it is read: a wrong byte behind MaxText others is told ahead of the size.
		return piece{code: faultLong}
	}
	return piece{tok: Token{Kind: TokText, Text: text}, size: size}
}

// unquoted is what the text in quotes stands for that rest begins with, and how many bytes it takes there: none if it has a wrong byte or no end.
func unquoted(rest string) (string, int) {
	var text strings.Builder
	for i := 1; i < len(rest); i++ {
		c := rest[i]
		if c == '"' {
			return text.String(), i + 1
		}
		if c < 32 || c > 126 {
			break
		}
		if c == '\\' {
			b, ok := readByte(rest[i+1:])
			if !ok {
				break
			}
			c = b
			i += 2
		}
		text.WriteByte(c)
	}
	return "", 0
}

// readByte reads the two digits behind a backslash.
func readByte(rest string) (byte, bool) {
	if len(rest) < 2 {
		return 0, false
	}
	high, okHigh := hexDigit(rest[0])
	low, okLow := hexDigit(rest[1])
	if !okHigh || !okLow {
		return 0, false
	}
	return high<<4 | low, true
}

func hexDigit(c byte) (byte, bool) {
	switch {
	case c >= '0' && c <= '9':
		return c - '0', true
	case c >= 'a' && c <= 'f':
		return c - 'a' + 10, true
	}
	return 0, false
}

// readMark reads the longest mark that stands there.
func readMark(rest string) piece {
	size := markSize(rest)
	if size == 0 {
		return piece{code: faultByte}
	}
	return piece{tok: Token{Kind: TokMark, Text: strings.Clone(rest[:size])}, size: size}
}

func markSize(rest string) int {
	if len(rest) > 1 {
		switch rest[:2] {
		case "->", "==", "!=", "<=", ">=", "<<", ">>", "&&", "||":
			return 2
		}
	}
	if strings.IndexByte(shortMarks, rest[0]) >= 0 {
		return 1
	}
	return 0
}

// wordSize is how many letters, digits and underlines a text begins with.
func wordSize(rest string) int {
	for i, r := range rest {
		if !isLetter(r) && !isDigit(r) && r != '_' {
			return i
		}
	}
	return len(rest)
}

// digitsSize is how many digits a text begins with.
func digitsSize(rest string) int {
	for i, r := range rest {
		if !isDigit(r) {
			return i
		}
	}
	return len(rest)
}

// isLetter takes the letters of a name alone: the library's own knows many more.
func isLetter(r rune) bool {
	return r >= 'a' && r <= 'z'
}

func isDigit(r rune) bool {
	return r >= '0' && r <= '9'
}
