package tests

import (
	"reflect"
	"regexp"
	"strconv"
	"strings"
	"testing"

	"loop.example/warp/impl"
)

// fixed holds the kinds whose tokens are all written alike, with the values that the document gives them.
var fixed = map[int]string{
	5: ";", 7: "\n",
	10: "and", 11: "break", 12: "catch", 13: "const", 14: "defer", 15: "elif", 16: "else", 17: "false",
	18: "fn", 19: "for", 20: "if", 21: "in", 22: "let", 23: "next", 24: "nil", 25: "not", 26: "or",
	27: "return", 28: "throw", 29: "true", 30: "try", 31: "while",
	40: "(", 41: ")", 42: "{", 43: "}", 44: "[", 45: "]", 46: ",", 47: "=", 48: ".", 49: "...", 50: "#",
	61: "+", 62: "-", 63: "*", 64: "/", 65: "//", 66: "%", 67: "&", 68: "|", 69: "~", 70: "<<", 71: ">>",
	72: "..", 73: "==", 74: "~=", 75: "<", 76: "<=", 77: ">", 78: ">=",
}

// wantTokens fails unless the text is the row of these tokens.
func wantTokens(t *testing.T, text string, want ...impl.Token) {
	t.Helper()
	got := impl.Scan(text)
	same := len(got.Tokens) == len(want) && (len(want) == 0 || reflect.DeepEqual(got.Tokens, want))
	if !got.Ok || got.At != 0 || !same {
		t.Errorf("Scan(%q) = %+v, want %+v", text, got, want)
	}
}

// wantOne fails unless the text is this one token from its first byte to its last.
func wantOne(t *testing.T, text string, kind int, num int64, content string) {
	t.Helper()
	wantTokens(t, text, impl.Token{Kind: kind, To: len(text), Line: 1, Num: num, Text: content})
}

// wantFault fails unless scanning the text ends at this place.
func wantFault(t *testing.T, text string, at int) {
	t.Helper()
	got := impl.Scan(text)
	if got.Ok || got.At != at || len(got.Tokens) != 0 {
		t.Errorf("Scan(%q) = %+v, want a fault at %d", text, got, at)
	}
}

// wantKinds fails unless the text's tokens are of these kinds.
func wantKinds(t *testing.T, text string, want ...int) {
	t.Helper()
	got := impl.Scan(text)
	var kinds []int
	for _, x := range got.Tokens {
		kinds = append(kinds, x.Kind)
	}
	if !got.Ok || !reflect.DeepEqual(kinds, want) {
		t.Errorf("Scan(%q) has kinds %v, want %v", text, kinds, want)
	}
}

func TestP1ConstantsKeepTheirValues(t *testing.T) {
	limits := []int{impl.MaxText, impl.MaxName, impl.MaxStr, impl.MaxNumber}
	if !reflect.DeepEqual(limits, []int{65536, 40, 4000, 40}) {
		t.Error(limits)
	}
	first := []int{impl.TName, impl.TInt, impl.TFlt, impl.TStr, impl.TSep, impl.TEnd, impl.TLine}
	if !reflect.DeepEqual(first, []int{1, 2, 3, 4, 5, 6, 7}) {
		t.Error(first)
	}
	words := []int{
		impl.TAnd, impl.TBreak, impl.TCatch, impl.TConst, impl.TDefer, impl.TElif, impl.TElse, impl.TFalse,
		impl.TFn, impl.TFor, impl.TIf, impl.TIn, impl.TLet, impl.TNext, impl.TNil, impl.TNot, impl.TOr,
		impl.TReturn, impl.TThrow, impl.TTrue, impl.TTry, impl.TWhile,
	}
	for i, kind := range words {
		if kind != 10+i {
			t.Errorf("word %d has kind %d", i, kind)
		}
	}
	marks := []int{
		impl.TOpen, impl.TClose, impl.TBegin, impl.TFinish, impl.TSquare, impl.TUnquare,
		impl.TComma, impl.TIs, impl.TDot, impl.TRest, impl.TLen,
	}
	for i, kind := range marks {
		if kind != 40+i {
			t.Errorf("mark %d has kind %d", i, kind)
		}
	}
	if impl.TBinary != 60 {
		t.Error(impl.TBinary)
	}
}

func TestP1FixedTokens(t *testing.T) {
	for kind, text := range fixed {
		wantOne(t, text, kind, 0, "")
	}
}

func TestP1Names(t *testing.T) {
	for _, text := range []string{"a", "z", "A", "Z", "_", "_9", "aZ_09", "And", "iff", "fn1", "_if", "nilnil", "e5", "x1", strings.Repeat("n", 41)} {
		wantOne(t, text, impl.TName, 0, text)
	}
	wantKinds(t, "1a", impl.TInt, impl.TName)
	wantKinds(t, "a.b", impl.TName, impl.TDot, impl.TName)
}

func TestP1Ints(t *testing.T) {
	for text, num := range map[string]int64{
		"0": 0, "7": 7, "10": 10, "9223372036854775807": 9223372036854775807,
		"0x0": 0, "0xf": 15, "0x0123456789": 0x123456789, "0xabcdef": 0xabcdef,
		"0x000000000000000a": 10, "0x7fffffffffffffff": 9223372036854775807,
		"0x8000000000000000": -9223372036854775808, "0xffffffffffffffff": -1, "0x1e5": 0x1e5,
	} {
		wantOne(t, text, impl.TInt, num, "")
	}
	wantTokens(t, "007",
		impl.Token{Kind: impl.TInt, From: 0, To: 1, Line: 1},
		impl.Token{Kind: impl.TInt, From: 1, To: 2, Line: 1},
		impl.Token{Kind: impl.TInt, From: 2, To: 3, Line: 1, Num: 7})
	wantTokens(t, "0x1A",
		impl.Token{Kind: impl.TInt, From: 0, To: 3, Line: 1, Num: 1},
		impl.Token{Kind: impl.TName, From: 3, To: 4, Line: 1, Text: "A"})
	wantTokens(t, "0X1",
		impl.Token{Kind: impl.TInt, From: 0, To: 1, Line: 1},
		impl.Token{Kind: impl.TName, From: 1, To: 3, Line: 1, Text: "X1"})
	wantKinds(t, "00x1", impl.TInt, impl.TInt)
	wantKinds(t, "10x1", impl.TInt, impl.TName)
	wantKinds(t, "-1", impl.TBinary+2, impl.TInt)
}

func TestP1Floats(t *testing.T) {
	for _, text := range []string{
		"0.0", "0.5", "1.50", "12.25", "0e0", "1e5", "1e+5", "1e-5", "1e05", "1.5e3", "1.5e+3", "10.01e-09",
		"9223372036854775808", "10000000000000000000", "99999999999999999999999999999999999999999",
	} {
		wantOne(t, text, impl.TFlt, 0, text)
	}
	wantKinds(t, "01.5", impl.TInt, impl.TFlt)
	wantKinds(t, "1E5", impl.TInt, impl.TName)
	wantKinds(t, "1.5E5", impl.TFlt, impl.TName)
	wantKinds(t, "1e5e5", impl.TFlt, impl.TName)
	wantKinds(t, "1e5+1", impl.TFlt, impl.TBinary+1, impl.TInt)
	wantKinds(t, ".5", impl.TDot, impl.TInt)
}

func TestP1DotBehindDigits(t *testing.T) {
	wantOne(t, "1.2", impl.TFlt, 0, "1.2")
	wantKinds(t, "1.", impl.TInt, impl.TDot)
	wantKinds(t, "1.x", impl.TInt, impl.TDot, impl.TName)
	wantKinds(t, "1.e5", impl.TInt, impl.TDot, impl.TName)
	wantKinds(t, "1. 5", impl.TInt, impl.TDot, impl.TInt)
	wantKinds(t, "1..2", impl.TInt, impl.TBinary+12, impl.TInt)
	wantKinds(t, "1...2", impl.TInt, impl.TRest, impl.TInt)
	wantKinds(t, "1.2.3", impl.TFlt, impl.TDot, impl.TInt)
	wantKinds(t, "1e2.3", impl.TFlt, impl.TDot, impl.TInt)
	wantKinds(t, "0x1.5", impl.TInt, impl.TDot, impl.TInt)
	wantKinds(t, "9223372036854775808.", impl.TFlt, impl.TDot)
}

func TestP1Strings(t *testing.T) {
	for text, content := range map[string]string{
		`""`: "", `"a b"`: "a b", `"\n\t\"\\"`: "\n\t\"\\", `"\x00\x7f\xff\x4a"`: "\x00\x7f\xff\x4a",
		"\"\t\r\x00\x80\xff'--;\"": "\t\r\x00\x80\xff'--;", `"\x411"`: "A1", `"\\n"`: `\n`,
	} {
		wantOne(t, text, impl.TStr, 0, content)
	}
	long := strings.Repeat("a", 65534)
	wantOne(t, `"`+long+`"`, impl.TStr, 0, long)
	wantKinds(t, `"a""b"`, impl.TStr, impl.TStr)
}

func TestP1EveryByteInAString(t *testing.T) {
	for b := range 256 {
		content := string([]byte{byte(b)})
		switch b {
		case '"':
			wantFault(t, `"`+content+`"`, 3)
		case '\\':
			wantFault(t, `"`+content+`"`, 3)
		case '\n':
			wantFault(t, `"`+content+`"`, 1)
		default:
			wantOne(t, `"`+content+`"`, impl.TStr, 0, content)
		}
		if !strings.Contains(`nt"\x`, content) {
			wantFault(t, `"\`+content+`"`, 2)
		}
		if !strings.Contains("0123456789abcdef", content) {
			wantFault(t, `"\x`+content+`0"`, 3)
			wantFault(t, `"\x0`+content+`"`, 4)
		}
	}
}

func TestP1SignsGoOnAsLongAsTheyCan(t *testing.T) {
	plus := func(n int) int { return impl.TBinary + n }
	wantKinds(t, ".....", impl.TRest, plus(12))
	wantKinds(t, "......", impl.TRest, impl.TRest)
	wantKinds(t, "===", plus(13), impl.TIs)
	wantKinds(t, "~~=", plus(9), plus(14))
	wantKinds(t, "~ =", plus(9), impl.TIs)
	wantKinds(t, "<<=", plus(10), impl.TIs)
	wantKinds(t, "<=<", plus(16), plus(15))
	wantKinds(t, ">>>=", plus(11), plus(18))
	wantKinds(t, "///", plus(5), plus(4))
	wantKinds(t, "=<", impl.TIs, plus(15))
	wantKinds(t, "- -", plus(2), plus(2))
	wantKinds(t, "<--<", plus(15))
	wantKinds(t, "a---b", impl.TName)
}

func TestP1PlacesAndLines(t *testing.T) {
	wantTokens(t, " \t\ra -- r\n\n-- \"@\r\n  if;--\n0",
		impl.Token{Kind: impl.TName, From: 3, To: 4, Line: 1, Text: "a"},
		impl.Token{Kind: impl.TLine, From: 9, To: 10, Line: 1},
		impl.Token{Kind: impl.TLine, From: 10, To: 11, Line: 2},
		impl.Token{Kind: impl.TLine, From: 17, To: 18, Line: 3},
		impl.Token{Kind: impl.TIf, From: 20, To: 22, Line: 4},
		impl.Token{Kind: impl.TSep, From: 22, To: 23, Line: 4},
		impl.Token{Kind: impl.TLine, From: 25, To: 26, Line: 4},
		impl.Token{Kind: impl.TInt, From: 26, To: 27, Line: 5})
	wantTokens(t, "\"\\n\"\nx",
		impl.Token{Kind: impl.TStr, From: 0, To: 4, Line: 1, Text: "\n"},
		impl.Token{Kind: impl.TLine, From: 4, To: 5, Line: 1},
		impl.Token{Kind: impl.TName, From: 5, To: 6, Line: 2, Text: "x"})
}

func TestP1TextsWithoutTokens(t *testing.T) {
	for _, text := range []string{"", " ", "\r\t ", "--", "-- @ \x00 \"", " --a", "-----"} {
		wantTokens(t, text)
	}
	wantOne(t, "x", impl.TName, 0, "x")
	wantKinds(t, "x--", impl.TName)
	wantKinds(t, "x--\n", impl.TName, impl.TLine)
	wantKinds(t, "x-", impl.TName, impl.TBinary+2)
}

func TestP1LongTexts(t *testing.T) {
	name := strings.Repeat("a", 65536)
	wantOne(t, name, impl.TName, 0, name)
	wantTokens(t, strings.Repeat(" ", 65536))
	wantFault(t, name+"a", 65536)
	wantFault(t, strings.Repeat(" ", 65537), 65536)
	wantFault(t, "@"+name, 65536)
	wantFault(t, `"`+name, 65536)
	wantFault(t, `"`+name[:65535], 65536)
	wantFault(t, name[:65535]+"@", 65535)
	if n := len(impl.Scan(strings.Repeat("\n", 65536)).Tokens); n != 65536 {
		t.Error(n)
	}
}

func TestP1BytesThatBeginNoToken(t *testing.T) {
	begins := " \t\r\n_\";(){}[],=.#+-*/%&|~<>0123456789abcdefghijklmnopqrstuvwxyzABCDEFGHIJKLMNOPQRSTUVWXYZ"
	for b := range 256 {
		text := string([]byte{byte(b)})
		switch {
		case text == `"`:
			wantFault(t, text, 1)
		case strings.Contains(begins, text):
			if got := impl.Scan(text); !got.Ok {
				t.Errorf("byte %d: %+v", b, got)
			}
		default:
			wantFault(t, text, 0)
			wantFault(t, "a\n "+text+" b", 3)
			wantFault(t, "1"+text, 1)
		}
	}
}

func TestP1WhatIsNotEnded(t *testing.T) {
	for _, text := range []string{
		`"`, `"a`, `"\`, `"\x`, `"\x4`, `"\x41`, `"\"`, "0x", "a 0x", "0e", "1e", "1e+", "1e-", "1.5e", "1.5e-",
		"9223372036854775808e",
	} {
		wantFault(t, text, len(text))
	}
	for text, at := range map[string]int{
		"0x ": 2, "0xg": 2, "0xF": 2, "0x\n": 2, "1e ": 2, "1else": 2, "1ex": 2, "1e+-1": 3, "1e 5": 2, "1e.5": 2,
		"0x00000000000000000": 18, "a=0x11112222333344445": 20, "0xffffffffffffffffe5": 18,
		"\"a\n\"": 2, `"\q"`: 2, `"\N"`: 2, `"\xA0"`: 3, `"\x0A"`: 4, `"\x4"`: 4, `"a" @ "`: 4, "1.5e\"": 4,
	} {
		wantFault(t, text, at)
	}
	wantKinds(t, "0xffffffffffffffffg", impl.TInt, impl.TName)
}

// pieces is a second reading of the table of chapter 1, by patterns that are tried at each place; the longest wins.
var pieces = []struct {
	kind    int
	pattern *regexp.Regexp
}{
	{impl.TName, regexp.MustCompile(`^[a-zA-Z_][a-zA-Z_0-9]*`)},
	{impl.TInt, regexp.MustCompile(`^0x[0-9a-f]{1,16}`)},
	{impl.TInt, regexp.MustCompile(`^(0|[1-9][0-9]*)`)},
	{impl.TFlt, regexp.MustCompile(`^(0|[1-9][0-9]*)(\.[0-9]+)?(e[+-]?[0-9]+)?`)},
	{impl.TStr, regexp.MustCompile(`^"(\\[nt"\\]|\\x[0-9a-f]{2}|[^"\\\n])*"`)},
	{0, regexp.MustCompile(`^([ \t\r]|--[^\n]*)`)},
}

// cut is what that second reading gives for a short text; false where it comes to no end.
func cut(text string) ([]impl.Token, bool) {
	var tokens []impl.Token
	for at := 0; at < len(text); {
		kind, size := -1, 0
		for _, p := range pieces {
			if n := len(p.pattern.FindString(text[at:])); n > size {
				kind, size = p.kind, n
			}
		}
		for k, w := range fixed {
			if strings.HasPrefix(text[at:], w) && (len(w) > size || len(w) == size && kind == impl.TName) {
				kind, size = k, len(w)
			}
		}
		rest := text[at+size:]
		number := kind == impl.TInt || kind == impl.TFlt
		hex := strings.HasPrefix(text[at:], "0x")
		bare := number && !hex && !strings.Contains(text[at:at+size], "e")
		if kind < 0 || bare && strings.HasPrefix(rest, "e") || hex && size == 1 {
			return nil, false
		}
		if kind > 0 {
			x := impl.Token{Kind: kind, From: at, To: at + size, Line: 1 + strings.Count(text[:at], "\n")}
			switch kind {
			case impl.TName, impl.TFlt:
				x.Text = text[at : at+size]
			case impl.TStr:
				x.Text, _ = strconv.Unquote(text[at : at+size])
			case impl.TInt:
				x.Num, _ = strconv.ParseInt(text[at:at+size], 0, 64)
			}
			tokens = append(tokens, x)
		}
		at += size
	}
	return tokens, true
}

// eachText hands on every text of at most size bytes of an alphabet.
func eachText(alphabet string, size int, visit func(string)) {
	visit("")
	if size == 0 {
		return
	}
	for i := range len(alphabet) {
		eachText(alphabet, size-1, func(rest string) { visit(alphabet[i:i+1] + rest) })
	}
}

func TestP1ShortTextsByASecondReading(t *testing.T) {
	check := func(text string) {
		want, ok := cut(text)
		got := impl.Scan(text)
		if got.Ok != ok || len(got.Tokens) != len(want) || len(want) > 0 && !reflect.DeepEqual(got.Tokens, want) {
			t.Errorf("Scan(%q) = %+v, want %v %+v", text, got, ok, want)
		}
	}
	eachText("0x1e.-+\" \n", 4, check)
	eachText("\"\\xn4a\n", 5, check)
	eachText(".=<>~/-", 4, check)
	eachText("ifno1 ", 5, check)
}

// The bytes ahead of At go on to be a row of tokens by one of these ends; with the byte at At by none.
func TestP1FaultIsTheFirstBadByte(t *testing.T) {
	ends := []string{"", "0", `"`, `n"`, `0"`, `00"`, "\n"}
	goesOn := func(text string) bool {
		for _, end := range ends {
			if impl.Scan(text + end).Ok {
				return true
			}
		}
		return false
	}
	check := func(text string) {
		got := impl.Scan(text)
		if got.Ok {
			return
		}
		if !goesOn(text[:got.At]) || got.At < len(text) && goesOn(text[:got.At+1]) {
			t.Errorf("Scan(%q): At %d", text, got.At)
		}
	}
	eachText("0xe.+\"\\@\n", 4, check)
	eachText("\"\\xn4g", 5, check)
}

func TestP1TokenTextOfFixedKinds(t *testing.T) {
	for kind := -100; kind <= 200; kind++ {
		if kind >= impl.TName && kind <= impl.TStr {
			continue
		}
		x := impl.Token{Kind: kind, From: 3, To: 9, Line: 2, Num: 5, Text: "abc"}
		if got := impl.TokenText(x); got != fixed[kind] {
			t.Errorf("kind %d: %q", kind, got)
		}
	}
	for _, kind := range []int{-1 << 63, 1<<63 - 1, 1 << 32, impl.TEnd, impl.TBinary, impl.TBinary + 19} {
		if got := impl.TokenText(impl.Token{Kind: kind}); got != "" {
			t.Errorf("kind %d: %q", kind, got)
		}
	}
}

func TestP1TokenTextOfNamesAndFloats(t *testing.T) {
	digits := strings.Repeat("1", 38)
	for text, kind := range map[string]int{
		"a": 1, "_": 1, "If": 1, "a9": 1, strings.Repeat("n", 40): 1,
		"1.5": 3, "0e0": 3, "1e-5": 3, "9223372036854775808": 3, digits + ".5": 3, digits + "11": 3,
	} {
		if got := impl.TokenText(impl.Token{Kind: kind, Text: text, Num: -1}); got != text {
			t.Errorf("kind %d, %q: %q", kind, text, got)
		}
		if got := impl.TokenText(impl.Token{Kind: 4 - kind, Text: text}); got != "" {
			t.Errorf("kind %d, %q: %q", 4-kind, text, got)
		}
	}
	for _, text := range []string{
		"", " ", "if", "while", "9", "9a", "a b", "a ", " a", "a-", "a.b", "a\n", "ä", "\x00", strings.Repeat("n", 41),
	} {
		if got := impl.TokenText(impl.Token{Kind: impl.TName, Text: text}); got != "" {
			t.Errorf("name %q: %q", text, got)
		}
	}
	for _, text := range []string{
		"", "0", "12", "9223372036854775807", "0x1", "0x10000000000000000", "01.5", "1.", ".5", "1.5.5", "1e", "1e+", "1.5e", "-1.5", "+1.5",
		"1.5 ", " 1.5", "1.5\n", "1E5", "1_0.5", "inf", "1.5--", "00", digits + ".55", digits + "111",
	} {
		if got := impl.TokenText(impl.Token{Kind: impl.TFlt, Text: text}); got != "" {
			t.Errorf("float %q: %q", text, got)
		}
	}
}

func TestP1TokenTextOfIntsAndStrings(t *testing.T) {
	for num, want := range map[int64]string{
		0: "0", 12: "12", 9223372036854775807: "9223372036854775807",
		-1: "0xffffffffffffffff", -9223372036854775808: "0x8000000000000000", -255: "0xffffffffffffff01",
	} {
		if got := impl.TokenText(impl.Token{Kind: impl.TInt, Num: num, Text: "x"}); got != want {
			t.Errorf("%d: %q", num, got)
		}
		wantOne(t, want, impl.TInt, num, "")
	}
	for _, content := range []string{"", "a", "\"\n", strings.Repeat("\xff", 4000), strings.Repeat("a", 4001)} {
		if got := impl.TokenText(impl.Token{Kind: impl.TStr, Text: content, Num: 3}); got != impl.Quote(content) {
			t.Errorf("%q: %q", content, got)
		}
	}
}

func TestP1QuoteOfEachByte(t *testing.T) {
	for b := range 256 {
		content := string([]byte{byte(b)})
		want := content
		switch {
		case b == 10:
			want = `\n`
		case b == 9:
			want = `\t`
		case b == '"' || b == '\\':
			want = `\` + content
		case b < 16:
			want = `\x0` + strconv.FormatInt(int64(b), 16)
		case b < 32 || b > 126:
			want = `\x` + strconv.FormatInt(int64(b), 16)
		}
		got := impl.Quote(content)
		if got != `"`+want+`"` {
			t.Errorf("byte %d: %s", b, got)
		}
		wantOne(t, got, impl.TStr, 0, content)
		for _, around := range []string{"a" + content + "0", content + content, "\\" + content + "x"} {
			wantOne(t, impl.Quote(around), impl.TStr, 0, around)
		}
	}
}

func TestP1QuoteOfLongTexts(t *testing.T) {
	for b := range 256 {
		content := strings.Repeat(string([]byte{byte(b)}), 4000)
		wantOne(t, impl.Quote(content), impl.TStr, 0, content)
		if got := impl.Quote(content + "a"); got != "" {
			t.Errorf("byte %d: %d bytes", b, len(got))
		}
	}
	if got := impl.Quote(""); got != `""` {
		t.Errorf("%q", got)
	}
}

func TestP1TokensComeBackFromTheirText(t *testing.T) {
	text := "fn f(a, ...) {\n\treturn 0xff .. \"\\x01\" // 1.5e3 ~= #a <= 0x8000000000000000;}"
	for _, x := range impl.Scan(text).Tokens {
		wantOne(t, impl.TokenText(x), x.Kind, x.Num, x.Text)
	}
}

func TestP1AnswersAreTheCallersOwn(t *testing.T) {
	text := "a = \"b\" -- c\n"
	first := impl.Scan(text)
	for i := range first.Tokens {
		first.Tokens[i] = impl.Token{}
	}
	wantKinds(t, text, impl.TName, impl.TIs, impl.TStr, impl.TLine)
}
