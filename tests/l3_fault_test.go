package tests

import (
	"slices"
	"strings"
	"testing"

	"loop.example/warp/impl"
)

func wantAt(t *testing.T, text string, at int) {
	t.Helper()
	if p := impl.Parse(text); p.Code != 1 || p.At != at || len(p.Tree.Nodes) != 0 {
		t.Errorf("Parse(%.100q): code %d at %d, %d nodes, want a fault at %d", text, p.Code, p.At, len(p.Tree.Nodes), at)
	}
}

// wantRead fails unless Parse tells of a text what the second reading tells, byte by byte.
func wantRead(t *testing.T, r *reader, text string) {
	t.Helper()
	p := impl.Parse(text)
	if r.wellFormed(text) {
		// a short text is not too large
		if p.Code == 1 || p.Code == 2 && len(text) <= 40 {
			t.Fatalf("Parse(%q): code %d at %d, but it is well-formed", text, p.Code, p.At)
		}
		return
	}
	if at := r.at(text); p.Code != 1 || p.At != at {
		t.Fatalf("Parse(%q): code %d at %d, want a fault at %d", text, p.Code, p.At, at)
	}
}

// wantGoesOn fails unless some text goes on from the bytes ahead of a fault.
func wantGoesOn(t *testing.T, r *reader, text string) {
	t.Helper()
	p := impl.Parse(text)
	if p.Code != 1 {
		return
	}
	whole, ok := r.completed(text[:p.At])
	if !ok || !strings.HasPrefix(whole, text[:p.At]) {
		t.Fatalf("no text goes on from %q", text[:p.At])
	}
	if q := impl.Parse(whole); q.Code == 1 {
		t.Fatalf("Parse(%q): code %d at %d", whole, q.Code, q.At)
	}
}

func TestP6WordsThatCouldGoOnToBeNames(t *testing.T) {
	for _, kind := range span(10, 31) {
		word := fixed[kind]
		if kind != impl.TNot && kind != impl.TFn && kind != impl.TNil && kind != impl.TTrue && kind != impl.TFalse {
			wantAt(t, "x = "+word, 4+len(word))
			wantAt(t, "x = "+word+" ", 4+len(word))
			wantAt(t, "x = "+word+"\n", 4+len(word))
			wantAt(t, "x = "+word+"()", 4+len(word))
			wantAt(t, "x = "+word+"-", 4+len(word))
		}
		wantAt(t, "let "+word, 4+len(word))
		wantAt(t, "let "+word+" = 1", 4+len(word))
		wantAt(t, "x."+word+" = 1", 2+len(word))
		wantAt(t, "x = a."+word+";", 6+len(word))
		wantAt(t, "fn f("+word+") {}", 5+len(word))
		parsed(t, "x = "+word+"_")
		parsed(t, "let "+word+"1")
		parsed(t, "_"+word+"()")
	}
	for _, word := range []string{"and", "catch", "elif", "else", "in", "or", "nil", "not", "true", "false"} {
		wantAt(t, word, len(word))
		wantAt(t, word+" x", len(word))
		wantAt(t, ";"+word+"=", 1+len(word))
	}
}

func TestP6NamesThatCouldGoOnToBeWords(t *testing.T) {
	for text, at := range map[string]int{
		"if a {} e":           9,
		"if a {} el":          10,
		"if a {} els":         11,
		"if a {} els ":        11,
		"if a {} elif":        12,
		"if a {} elf":         10,
		"if a {} elsewhere":   12,
		"if a {} elif_":       12,
		"if a {} else1":       12,
		"if a {} x":           8,
		"if a {} else {} els": 16,
		"try {} c":            8,
		"try {} cat {}":       10,
		"try {} catch1":       12,
		"try {} x":            7,
		"try {} const":        8,
		"for a i":             7,
		"for a in":            8,
		"for a inn":           8,
		"for a if":            7,
		"for a x":             6,
		"for a, b i":          10,
		"x = a a":             7,
		"x = a an":            8,
		"x = a an b":          8,
		"x = a andy":          9,
		"x = a orb":           8,
		"x = a o":             7,
		"x = a not":           6,
		"x = 1a":              6,
		"x = 1an":             7,
		"x = 1b":              5,
		"x = 1o2":             6,
		"f() and":             4,
		"f() a":               4,
		"break a":             6,
		"let a and":           6,
		"let a in":            6,
	} {
		wantAt(t, text, at)
	}
	parsed(t, "if a {} else {}")
	parsed(t, "x = a and andy or orb")
}

func TestP6SignsThatCouldGoOnToBeOthers(t *testing.T) {
	for text, at := range map[string]int{
		"-":             1,
		"- ":            1,
		"-a":            1,
		"let -":         5,
		"let - x":       5,
		"x -":           3,
		"x - 1":         3,
		"f() -1":        5,
		"f() -":         5,
		"x = a.":        6,
		"x = a.1":       6,
		"x = a..":       7,
		"x = a...":      7,
		"x = a....":     7,
		"x = a .":       7,
		"x = 1 .":       7,
		"x = 1 .a":      7,
		"x = .":         5,
		"x = ..":        6,
		"x = .. a":      6,
		"x = .a":        5,
		"x = ... ...":   10,
		"x = ....":      8,
		"x..":           2,
		"x..y = 1":      2,
		"x...":          2,
		".":             0,
		"...":           0,
		"f(.":           3,
		"f(..":          4,
		"f(..a":         4,
		"fn f(.":        6,
		"fn f(..":       7,
		"fn f(..)":      7,
		"fn f(a .":      7,
		"fn f(a, .)":    9,
		"x = {.":        6,
		"x = {..":       7,
		"x = {..a":      7,
		"x = {.1":       6,
		"x = {.a .":     8,
		"x = ~":         5,
		"x = ~=":        5,
		"x = ~= 5":      5,
		"x = a ~":       7,
		"x = a ~~= b":   8,
		"x ~= 1":        2,
		"x == 1":        3,
		"x === 1":       3,
		"let x == 5":    7,
		"x = a = b":     7,
		"x = a =":       7,
		"x = = b":       4,
		"x = a === b":   8,
		"f() = 1":       4,
		"f() == 1":      4,
		"x = a <":       7,
		"x = a < < b":   8,
		"x = a <<< b":   8,
		"x = a <<= b":   8,
		"x = a >>> b":   8,
		"x = a /// b":   8,
		"x = a // / b":  9,
		"x = a + * b":   8,
		"x = a +":       7,
		"x < 1":         2,
		"x = < 1":       4,
		"x = a)":        5,
		"x = (a]":       6,
		"x = [":         4,
		"x = {a)":       6,
		"x = {a;}":      6,
		"f(a;)":         3,
		"x = a[b;]":     7,
		"for a; in b {": 5,
	} {
		wantAt(t, text, at)
	}
	parsed(t, "x = a--b")
	parsed(t, "x = a ..--\n b")
	parsed(t, "--")
}

func TestP6NumbersStringsAndRemarks(t *testing.T) {
	for text, at := range map[string]int{
		"x = 1.":                  6,
		"x = 1.a":                 6,
		"x = 1. 5":                6,
		"x = 1..":                 7,
		"x = 1...":                7,
		"x = 1.5.":                8,
		"x = 1.5.5":               8,
		"x = 1e":                  6,
		"x = 1e;":                 6,
		"x = 1e+":                 7,
		"x = 1e+-":                7,
		"x = 1.5e":                8,
		"x = 1.5ex":               8,
		"x = 1e5.":                8,
		"x = 1e5e":                7,
		"x = 01":                  5,
		"x = 0x":                  6,
		"x = 0xg":                 6,
		"x = 0x1g":                7,
		"x = 0x1.5":               8,
		"x = 0x11111111111111111": 22,
		"x = 1 2":                 6,
		"x = 1 2.5":               6,
		"x = 1 0x":                6,
		"x = 1 \"q":               6,
		"1":                       0,
		"1e":                      0,
		"0xg":                     0,
		"let 1":                   4,
		"x = a 1e":                6,
		"x = \"":                  5,
		"x = \"q":                 6,
		"x = \"q\n\"":             6,
		"x = \"\\":                6,
		"x = \"\\q\"":             6,
		"x = \"\\x":               7,
		"x = \"\\x4":              8,
		"x = \"\\x4g\"":           8,
		"x = \"\\xA0\"":           7,
		"x = \"a\" \"b\"":         8,
		"\"q":                     0,
		"let \"q\"":               4,
		"let \"q":                 4,
		"x --":                    4,
		"x -- = 1":                8,
		"x -- r\n1":               7,
		"let a --\n1":             9,
		"?":                       0,
		"x = ?":                   4,
		"x = a\x00":               5,
		"x = \xff":                4,
		"x = a!":                  5,
		"x = $":                   4,
		"x = 'a'":                 4,
		"f()\f":                   3,
	} {
		wantAt(t, text, at)
	}
	parsed(t, "x = 1.5e+5..0x1f..0")
	parsed(t, "x = 0xe..1")
}

func TestP6FaultsAtTheEnds(t *testing.T) {
	for _, text := range []string{")", "}", "]", ",", "=", ".", "#", "+", "*", "%", "&", "|", "~", "<", ">", "/", "1", "\"", "[", "\\", "@"} {
		wantAt(t, text, 0)
		wantAt(t, text+" f()", 0)
		wantAt(t, " "+text, 1)
		wantAt(t, "f()\n"+text, 4)
	}
	wantAt(t, "f()\nf())", 7)
	wantAt(t, "f(){", 3)
	wantAt(t, "{}}", 2)
	wantAt(t, "{", 1)
	wantAt(t, "{\n", 2)
	wantAt(t, "x", 1)
	wantAt(t, "x\n--r", 5)
	wantAt(t, "(a)", 3)
	wantAt(t, "(a)\n", 4)
	wantAt(t, "(a) = 1", 4)
	wantAt(t, "x, (a) = 1", 7)
	wantAt(t, "x, f() = 1", 7)
	wantAt(t, "x, f()", 6)
	wantAt(t, "x, y", 4)
	wantAt(t, "x, f();", 6)
	wantAt(t, "x, f()() = 1", 9)
	wantAt(t, "x, (y)() = 1", 9)
	wantAt(t, "x, y.z() = 1", 9)
	wantAt(t, "x, y()(), z = 1", 8)
	wantAt(t, "f(), x = 1", 3)
	wantAt(t, "a.b", 3)
	wantAt(t, "a[b]", 4)
	wantAt(t, "a[b];", 4)
	wantAt(t, "defer", 5)
	wantAt(t, "defer g;", 7)
	wantAt(t, "defer g = 1", 8)
	wantAt(t, "defer g() = 1", 10)
	wantAt(t, "defer g().h", 11)
	wantAt(t, "defer (g())", 11)
	wantAt(t, "for a, b = 1, 2 {}", 9)
	wantAt(t, "for a = 1 {}", 10)
	wantAt(t, "for a = 1, 2, 3, 4 {}", 15)
	wantAt(t, "for a.b in c {}", 5)
	wantAt(t, "const a, b = 1", 7)
	wantAt(t, "const a", 7)
	wantAt(t, "const a;", 7)
	wantAt(t, "try {} catch {}", 13)
	wantAt(t, "try {} catch a, b, c {}", 17)
	wantAt(t, "fn f(a, ) {}", 8)
	wantAt(t, "fn f(..., a) {}", 8)
	wantAt(t, "fn f(a b) {}", 7)
	wantAt(t, "fn() {}", 2)
	wantAt(t, "x = fn f() {}", 7)
	wantAt(t, "if a break", 5)
	wantAt(t, "if a;", 4)
	wantAt(t, "x = {,}", 5)
	wantAt(t, "x = {a,,}", 7)
	wantAt(t, "x = {a b}", 7)
	wantAt(t, "x = {[a]}", 8)
	wantAt(t, "x = {[a], b}", 8)
	wantAt(t, "x = {.a}", 7)
	wantAt(t, "x = {a = 1}", 8)
	wantAt(t, "x = ()", 5)
	wantAt(t, "x = (a, b)", 6)
	wantAt(t, "x = a[]", 6)
	wantAt(t, "x = a[b, c]", 7)
	wantAt(t, "f(a,)", 4)
	wantAt(t, "f(,)", 2)
	wantAt(t, "return ,", 7)
	wantAt(t, "return a,", 9)
	wantAt(t, "let a, = 1", 7)
	wantAt(t, "break break", 6)
	wantAt(t, "break 1", 6)
	wantAt(t, "{} {}", 3)
	wantAt(t, "...()", 0)
	wantAt(t, "x = ...()", 7)
	wantAt(t, "x = 1()", 5)
	wantAt(t, "x = {}.a", 7)
	wantAt(t, "x = {}.. a;;}", 12)
	wantAt(t, "x = fn() {}()", 11)
	wantAt(t, "x = \"a\".b", 8)
}

// pieceTexts is pieces of texts that are put behind one another by chance.
var pieceTexts = []string{
	" ", " ", "\n", "\n", ";", "--r\n", "-", "--", "a", "b", "x", "e", "el", "nil", "if", "if ", "else ", "elif ", "let ", "const ", "fn ", "fn", "while ", "for ",
	"in ", " in ", "break", "next", "return ", "return", "try ", "catch ", "throw ", "defer ", "and ", " and ", "or", "not ", "true", "1", "0", "0x", "1e", "1.5", ".", "..",
	"...", "\"", "\"q\"", "\\", "(", ")", "()", "(", ")", "{", "}", "{}", "{", "}", "[", "]", ",", ",", "=", "=", " = ", "==", "~", "~=", "<", "+", "#", "f()", "a.b", "?",
}

func TestP6TextsOfChanceByASecondReading(t *testing.T) {
	t.Parallel()
	var d dice = 6
	fine := 0
	r := newReader()
	for range 6000 {
		text := ""
		for range 1 + d.roll(8) {
			text += pieceTexts[d.roll(len(pieceTexts))]
		}
		wantRead(t, r, text)
		wantGoesOn(t, r, text)
		if impl.Parse(text).Code == 0 {
			fine++
		}
	}
	if fine < 50 {
		t.Errorf("only %d texts were well-formed", fine)
	}
}

// A text that is led on by what may come next goes deep into the rows ahead of its fault.
func TestP6LedTextsByASecondReading(t *testing.T) {
	t.Parallel()
	var d dice = 7
	for range 800 {
		text := ""
		for range 1 + d.roll(14) {
			kinds := slices.DeleteFunc(impl.Next(text), func(kind int) bool { return kind == impl.TEnd })
			text += []string{"", " ", " ", "\n"}[d.roll(4)] + written(kinds[d.roll(len(kinds))])
			if impl.Next(text) == nil {
				break
			}
		}
		r := newReader()
		for range 4 {
			spoilt := d.spoilt(text)
			wantRead(t, r, spoilt)
			wantGoesOn(t, r, spoilt)
		}
		wantRead(t, r, text)
		wantGoesOn(t, r, text)
	}
}

// spoilt is a text with a byte or a piece changed, taken out or put in.
func (d *dice) spoilt(text string) string {
	at := d.roll(len(text) + 1)
	piece := pieceTexts[d.roll(len(pieceTexts))]
	switch d.roll(4) {
	case 0:
		return text[:at]
	case 1:
		return text[:at] + piece + text[at:]
	case 2:
		return text[:at] + text[min(at+1, len(text)):]
	}
	return text[:at] + piece + text[min(at+1, len(text)):]
}

func TestP6FormsCutAndSpoiltByASecondReading(t *testing.T) {
	t.Parallel()
	var d dice = 8
	for _, f := range allForms() {
		r := newReader()
		for i := range len(f.text) + 1 {
			wantRead(t, r, f.text[:i])
			wantGoesOn(t, r, f.text[:i])
		}
		for range 20 {
			spoilt := d.spoilt(f.text)
			wantRead(t, r, spoilt)
			wantGoesOn(t, r, spoilt)
		}
	}
}

func TestP6ShortTextsByASecondReading(t *testing.T) {
	t.Parallel()
	r := newReader()
	check := func(text string) { wantRead(t, r, text) }
	eachText("f(). =\n", 5, check)
	eachText("x=-~.1", 5, check)
	eachText("a={},;", 5, check)
	eachText("if {}a", 5, check)
	eachText("fn(){", 5, check)
	eachText("r=1ex\"\\", 5, check)
	for _, ahead := range []string{"if a {}", "x=a", "f()", "x=", "for a", "fn f(", "x={", "let a", "try{}", "a,b", "defer f", "return", "x={[a]"} {
		eachText("eilsnd. =(", 3, func(text string) { check(ahead + text) })
		eachText(".~=-a1,", 3, func(text string) { check(ahead + text) })
		eachText("\n;)}{[", 3, func(text string) { check(ahead + text) })
	}
}
