package impl

import (
	"strconv"
	"strings"
)

const (
	MaxText   = 65536
	MaxName   = 40
	MaxStr    = 4000
	MaxNumber = 40
)

const (
	TName = iota + 1
	TInt
	TFlt
	TStr
	TSep
	TEnd
	TLine
)

const (
	TAnd = iota + 10
	TBreak
	TCatch
	TConst
	TDefer
	TElif
	TElse
	TFalse
	TFn
	TFor
	TIf
	TIn
	TLet
	TNext
	TNil
	TNot
	TOr
	TReturn
	TThrow
	TTrue
	TTry
	TWhile
)

const (
	TOpen = iota + 40
	TClose
	TBegin
	TFinish
	TSquare
	TUnquare
	TComma
	TIs
	TDot
	TRest
	TLen
	TBinary = 60
)

// maxHexDigits is how many digits behind 0x fill the 64 bits of an int.
const maxHexDigits = 16

const hexDigits = "0123456789abcdef"

// wordTexts holds the words in the order of their kinds, from TAnd on.
var wordTexts = [...]string{
	"and", "break", "catch", "const", "defer", "elif", "else", "false", "fn", "for", "if",
	"in", "let", "next", "nil", "not", "or", "return", "throw", "true", "try", "while",
}

// markTexts holds the signs that are no operations in the order of their kinds, from TOpen on.
var markTexts = [...]string{"(", ")", "{", "}", "[", "]", ",", "=", ".", "...", "#"}

// binaryTexts holds the signs of the operations in the order of their numbers, from 1 on.
var binaryTexts = [...]string{
	"+", "-", "*", "/", "//", "%", "&", "|", "~", "<<", ">>", "..", "==", "~=", "<", "<=", ">", ">=",
}

// Token is a word, number, string, sign or end of line of a text.
type Token struct {
	Kind int
	From int
	To   int
	Line int
	Num  int64
	Text string
}

// Scanned is the tokens of a text, or the first place at which no token can go on.
type Scanned struct {
	Ok     bool
	At     int
	Tokens []Token
}

// Scan cuts a text into its tokens.
func Scan(text string) Scanned {
	if len(text) > MaxText {
		return Scanned{At: MaxText}
	}
	s := scanner{text: text, words: wordKinds(), line: 1}
	var tokens []Token
	for t := range s.tokens {
		tokens = append(tokens, t)
	}
	if s.stuck {
		return Scanned{At: s.at}
	}
	return Scanned{Ok: true, Tokens: tokens}
}

// TokenText is what a token is written as, by its Kind, Num and Text alone.
func TokenText(t Token) string {
	switch t.Kind {
	case TName:
		if len(t.Text) <= MaxName && isName(t.Text, wordKinds()) {
			return strings.Clone(t.Text)
		}
		return ""
	case TInt:
		return intText(t.Num)
	case TFlt:
		if len(t.Text) <= MaxNumber && isFloat(t.Text) {
			return strings.Clone(t.Text)
		}
		return ""
	case TStr:
		return Quote(t.Text)
	}
	return fixedText(t.Kind)
}

// Quote writes a text as a string token.
func Quote(s string) string {
	if len(s) > MaxStr {
		return ""
	}
	quoted := []byte{'"'}
	for i := range len(s) {
		quoted = appendElement(quoted, s[i])
	}
	return string(append(quoted, '"'))
}

func appendElement(quoted []byte, c byte) []byte {
	switch {
	case c == '\n':
		return append(quoted, '\\', 'n')
	case c == '\t':
		return append(quoted, '\\', 't')
	case c == '"' || c == '\\':
		return append(quoted, '\\', c)
	case c < 32 || c > 126:
		return append(quoted, '\\', 'x', hexDigits[c>>4], hexDigits[c&15])
	}
	return append(quoted, c)
}

// intText writes an int below 0 by its bits: a sign would be a token of its own.
func intText(n int64) string {
	if n < 0 {
		return "0x" + strconv.FormatUint(uint64(n), 16)
	}
	return strconv.FormatInt(n, 10)
}

// fixedText is the text of a kind whose tokens are all written alike, and nothing for the others.
func fixedText(kind int) string {
	switch {
	case kind == TSep:
		return ";"
	case kind == TLine:
		return "\n"
	case kind >= TAnd && kind <= TWhile:
		return wordTexts[kind-TAnd]
	case kind >= TOpen && kind <= TLen:
		return markTexts[kind-TOpen]
	case kind > TBinary && kind <= TBinary+len(binaryTexts):
		return binaryTexts[kind-TBinary-1]
	}
	return ""
}

// wordKinds is made anew for each call that asks it: a package-level map could be written to.
func wordKinds() map[string]int {
	kinds := make(map[string]int, len(wordTexts))
	for i, word := range wordTexts {
		kinds[word] = TAnd + i
	}
	return kinds
}

// scanner goes over a text from its front. When it is stuck, at is the place of the fault in the token that begins at from.
type scanner struct {
	text  string
	words map[string]int
	from  int
	at    int
	line  int
	stuck bool
}

// tokens is an iterator; it ends early, and the scanner is stuck, where no token can go on.
func (s *scanner) tokens(yield func(Token) bool) {
scan:
	for s.at < len(s.text) {
		if isBlank(s.text[s.at]) {
			s.at++
			continue scan
		}
		if strings.HasPrefix(s.text[s.at:], "--") {
			for ; s.at < len(s.text); s.at++ {
				if s.text[s.at] == '\n' {
					continue scan
				}
			}
			return
		}
		t := s.token()
		if s.stuck || !yield(t) {
			return
		}
	}
}

func (s *scanner) token() Token {
	s.from = s.at
	t := Token{From: s.from, Line: s.line}
	switch c := s.text[s.at]; {
	case isLetter(c):
		s.readName(&t)
	case isDigit(c):
		s.readNumber(&t)
	case c == '"':
		s.readString(&t)
	default:
		s.readSign(&t)
	}
	t.To = s.at
	return t
}

func (s *scanner) readName(t *Token) {
	s.at = nameEnd(s.text, t.From)
	piece := s.text[t.From:s.at]
	if kind, ok := s.words[piece]; ok {
		t.Kind = kind
		return
	}
	t.Kind, t.Text = TName, strings.Clone(piece)
}

func (s *scanner) readNumber(t *Token) {
	end, ok := numberEnd(s.text, t.From)
	s.at = end
	if !ok {
		s.stuck = true
		return
	}
	piece := s.text[t.From:end]
	if n, ok := intOf(piece); ok {
		t.Kind, t.Num = TInt, n
		return
	}
	t.Kind, t.Text = TFlt, strings.Clone(piece)
}

func (s *scanner) readString(t *Token) {
	s.at++
	var content []byte
	for s.at < len(s.text) {
		switch c := s.text[s.at]; c {
		case '"':
			s.at++
			t.Kind, t.Text = TStr, string(content)
			return
		case '\n':
			s.stuck = true
			return
		case '\\':
			s.at++
			meant, end, ok := escaped(s.text, s.at)
			s.at = end
			if !ok {
				s.stuck = true
				return
			}
			content = append(content, meant)
		default:
			s.at++
			content = append(content, c)
		}
	}
	s.stuck = true
}

func (s *scanner) readSign(t *Token) {
	kind := signKind(s.text[s.at:])
	if kind == 0 {
		s.stuck = true
		return
	}
	if kind == TLine {
		s.line++
	}
	t.Kind = kind
	s.at += len(fixedText(kind))
}

// signKind is the kind of the longest sign that a text begins with, 0 when it begins with none.
func signKind(rest string) int {
	switch rest[0] {
	case ';':
		return TSep
	case '\n':
		return TLine
	}
	kind, length := 0, 0
	for i, sign := range markTexts {
		if len(sign) > length && strings.HasPrefix(rest, sign) {
			kind, length = TOpen+i, len(sign)
		}
	}
	for i, sign := range binaryTexts {
		if len(sign) > length && strings.HasPrefix(rest, sign) {
			kind, length = TBinary+1+i, len(sign)
		}
	}
	return kind
}

// escaped is the byte that stands for what follows a backslash, and the place behind that;
// with false, the place of the fault.
func escaped(text string, at int) (byte, int, bool) {
	if at == len(text) {
		return 0, at, false
	}
	switch c := text[at]; c {
	case 'n':
		return '\n', at + 1, true
	case 't':
		return '\t', at + 1, true
	case '"', '\\':
		return c, at + 1, true
	case 'x':
		return hexByte(text, at+1)
	}
	return 0, at, false
}

// hexByte reads two digits as escaped does.
func hexByte(text string, at int) (byte, int, bool) {
	value := 0
	for range 2 {
		if at == len(text) {
			return 0, at, false
		}
		digit := strings.IndexByte(hexDigits, text[at])
		if digit < 0 {
			return 0, at, false
		}
		value = value<<4 | digit
		at++
	}
	return byte(value), at, true
}

// numberEnd is the place behind the number that begins at a digit; with false, the place of the fault.
func numberEnd(text string, from int) (int, bool) {
	if strings.HasPrefix(text[from:], "0x") {
		return hexEnd(text, from+2)
	}
	at := from + 1
	if text[from] != '0' {
		at = digitsEnd(text, at)
	}
	if at+1 < len(text) && text[at] == '.' && isDigit(text[at+1]) {
		at = digitsEnd(text, at+1)
	}
	if at == len(text) || text[at] != 'e' {
		return at, true
	}
	at++
	if at < len(text) && (text[at] == '+' || text[at] == '-') {
		at++
	}
	end := digitsEnd(text, at)
	return end, end > at
}

// hexEnd is numberEnd from behind the 0x on.
func hexEnd(text string, from int) (int, bool) {
	at := from
	for at < len(text) && isHexDigit(text[at]) {
		if at-from == maxHexDigits {
			return at, false
		}
		at++
	}
	return at, at > from
}

func digitsEnd(text string, at int) int {
	for at < len(text) && isDigit(text[at]) {
		at++
	}
	return at
}

func nameEnd(text string, at int) int {
	for at < len(text) && (isLetter(text[at]) || isDigit(text[at])) {
		at++
	}
	return at
}

// intOf is the number of a piece that is written as an int is; what is too large for one is a float.
func intOf(piece string) (int64, bool) {
	if digits, ok := strings.CutPrefix(piece, "0x"); ok {
		bits, err := strconv.ParseUint(digits, 16, 64)
		return int64(bits), err == nil
	}
	n, err := strconv.ParseInt(piece, 10, 64)
	return n, err == nil
}

// isName tells whether a text is a name as a whole.
func isName(text string, words map[string]int) bool {
	if text == "" || !isLetter(text[0]) || nameEnd(text, 0) < len(text) {
		return false
	}
	_, word := words[text]
	return !word
}

// isFloat tells whether a text is a float as a whole.
func isFloat(text string) bool {
	if text == "" || !isDigit(text[0]) {
		return false
	}
	end, ok := numberEnd(text, 0)
	if !ok || end < len(text) {
		return false
	}
	_, whole := intOf(text)
	return !whole
}

func isBlank(c byte) bool { return c == ' ' || c == '\t' || c == '\r' }

func isDigit(c byte) bool { return c >= '0' && c <= '9' }

func isHexDigit(c byte) bool { return isDigit(c) || c >= 'a' && c <= 'f' }

func isLetter(c byte) bool { return c >= 'a' && c <= 'z' || c >= 'A' && c <= 'Z' || c == '_' }
