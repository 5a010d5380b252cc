package tests

import (
	"fmt"
	"strings"
	"testing"

	"loop.example/warp/impl"
)

// told is what Parse gives for a text, in the words of chapter 5, with lines and columns counted byte by byte.
func told(text string) string {
	p := impl.Parse(text)
	switch p.Code {
	case 0:
		return "fine\n" + dumped(p.Tree)
	case 2:
		return "large\n"
	}
	line, column := 1, 1
	for i := range p.At {
		column++
		if text[i] == '\n' {
			line, column = line+1, 1
		}
	}
	return fmt.Sprintf("fault %d:%d\n", line, column)
}

// wantAnswer fails unless Answer is what Parse gives, and begins with this word.
func wantAnswer(t *testing.T, text, word string) {
	t.Helper()
	got := impl.Answer(text)
	wantSameText(t, got, told(text))
	if first, _, _ := strings.Cut(strings.TrimSuffix(got, "\n"), "\n"); first != word {
		t.Errorf("Answer(%.200q), %d bytes: %.200q, want %q", text, len(text), got, word)
	}
}

func TestP11FineTexts(t *testing.T) {
	for text, want := range map[string]string{
		"":             "1 0 0 1 0 0 \"\" 0 0\n",
		"\n":           "1 0 1 1 0 0 \"\" 0 0\n",
		" -- r\n;":     "1 0 7 1 0 0 \"\" 0 0\n",
		"break":        "11 0 5 1 0 0 \"\" 0 0\n1 0 5 1 0 0 \"\" 0 1 0\n",
		"\nbreak\n":    "11 1 6 2 0 0 \"\" 0 0\n1 0 7 1 0 0 \"\" 0 1 0\n",
		"let a,b":      "2 0 7 1 0 0 \"\" 2 a b 0\n1 0 7 1 0 0 \"\" 0 1 0\n",
		"throw \"\t\"": "25 6 9 1 0 0 \"\\t\" 0 0\n15 0 9 1 0 0 \"\" 0 1 0\n1 0 9 1 0 0 \"\" 0 1 1\n",
		"x=0xffffffffffffffff": "26 0 1 1 0 0 \"x\" 0 0\n23 2 20 1 0 -1 \"\" 0 0\n5 0 20 1 0 1 \"\" 0 2 0 1\n" +
			"1 0 20 1 0 0 \"\" 0 1 2\n",
		eachKindText: eachKindDump,
	} {
		wantSameText(t, impl.Answer(text), "fine\n"+want)
	}
	for _, f := range allForms() {
		wantSameText(t, impl.Answer(f.text), "fine\n"+dumped(treeOf(t, f.text, f.stats)))
	}
	for _, text := range p7Texts() {
		wantAnswer(t, text, "fine")
	}
}

func TestP11Faults(t *testing.T) {
	for text, place := range map[string]string{
		// at the first byte
		"@": "1:1", ")": "1:1", "=\n\n": "1:1", "\xff": "1:1", "\x00": "1:1", "1": "1:1",
		// at a newline
		"throw \"ab\n\"": "1:10", "x = \"a\n": "1:7", "x = 1e\n5": "1:7", "x = 0x\n": "1:7",
		"break\n\nx = 0x\n": "3:7", "\nthrow \"\n": "2:8", "x = \"\\\n": "1:7",
		// just behind a newline
		"let a\n@": "2:1", "break\n\n\n)": "4:1", "-- r\n@": "2:1", "fn f(a,\n...\n,b)": "3:1", "\n@\n\n": "2:1", "\n\n@": "3:1",
		// at the end
		"let": "1:4", "let ": "1:5", "x = \"a": "1:7", "f(": "1:3", "x": "1:2", "{": "1:2", "{\n\n{\n}": "4:2", "x = 1e": "1:7", "throw -- r": "1:11",
		// at the end, behind a newline
		"let\n": "2:1", "let\n\n\n": "4:1", "if a {\n\tbreak\n": "3:1", "f(\n": "2:1",
		// within a line
		"x = 1 2": "1:7", "f()\n g h": "2:4", "break next": "1:7", "if a {\n} elfi": "2:5", "if a {}\nelse {}": "2:5", "f()\n\n\n  g()  h()": "4:8",
		"x = a\n\ny = b\nz == c\nw = d": "4:4", "else {}\n": "1:5",
		// columns count bytes: tabs, carriage returns and bytes above 127 are one each
		"\t\t@": "1:3", "\r\r@": "1:3", "\r\n\t\r@": "2:3", "\n\r@": "2:2", "a\xff": "1:2", "f(\r\n\r\n)) ": "3:2",
		"-- \xc3\xa4\xff\n@": "2:1", "f(\"\xc3\xa4\xff\") @": "1:10", "throw \"\xe4\xbd\xa0\" \"": "1:13", "\xc3\xa4 = 1": "1:1",
		"f() -- \xff\xff\n\tg(\"\xc3\xa4\", @": "2:10", "f() -- \xff\n\r\t \"": "2:4", "\"\u2028\u0085\" @": "1:1", "f(\"\u2028\v\f\u0085\") @": "1:14",
		"-- a\rb\n\r)": "2:2", "let a = \"\t\t\" b": "1:14",
	} {
		wantAnswer(t, text, "fault "+place)
	}
}

func TestP11FaultsFarBehind(t *testing.T) {
	for text, place := range map[string]string{
		strings.Repeat("break\n", 100) + "@":                            "101:1",
		strings.Repeat("break\n", 100) + "break @":                      "101:7",
		"f()" + strings.Repeat(" ", 65000) + "@":                        "1:65004",
		strings.Repeat("\n", 65535) + "@":                               "65536:1",
		strings.Repeat(" ", 65535) + "@":                                "1:65536",
		strings.Repeat("\n", 32767) + strings.Repeat("\t", 32768) + "@": "32768:32769",
		"x = " + strings.Repeat("\n", 65532):                            "65533:1",
		strings.Repeat("(", 65536):                                      "1:65537",
		"x = " + strings.Repeat("\r\n", 32766):                          "32767:1",
		"@" + strings.Repeat("\n", 65535):                               "1:1",
		"f() f" + strings.Repeat("\n", 65531):                           "1:5",
		strings.Repeat("n", 41):                                         "1:42",
		strings.Repeat("break;", 300) + "}":                             "1:1801",
		"throw \"" + strings.Repeat("7", 5000) + "\" 7":                 "1:5010",
	} {
		wantAnswer(t, text, "fault "+place)
	}
}

// Each way in which a text is too large, and the last text that is not.
func TestP11LargeTexts(t *testing.T) {
	t.Parallel()
	nodes := func(n int) string {
		return strings.Repeat("{"+many(14, "break", ";")+"}\n", 199) + "{" + many(n-2987, "break", ";") + "}"
	}
	for name, size := range map[string]struct {
		most int
		text func(n int) string
	}{
		"nodes":       {3000, nodes},
		"statements":  {200, func(n int) string { return many(n, "break", "\n") }},
		"a block":     {200, func(n int) string { return "{" + many(n, "break", "\n") + "}" }},
		"arguments":   {199, func(n int) string { return "f(" + many(n, "a", ",") + ")" }},
		"values":      {199, func(n int) string { return "x = " + many(n, "a", ",") }},
		"targets":     {199, func(n int) string { return many(n, "x", ",") + " = a" }},
		"entries":     {200, func(n int) string { return "x = {" + many(n, "a", ",") + "}" }},
		"names":       {200, func(n int) string { return "let " + many(n, "a", ",") }},
		"parameters":  {200, func(n int) string { return "fn f(" + many(n, "a", ",") + ") {}" }},
		"blocks":      {100, func(n int) string { return strings.Repeat("{", n) + strings.Repeat("}", n) }},
		"operands":    {99, func(n int) string { return "throw " + many(n, "a", "+") }},
		"prefixes":    {98, func(n int) string { return "throw " + strings.Repeat("~", n) + "a" }},
		"elifs":       {98, func(n int) string { return "if a {}" + strings.Repeat(" elif a {}", n) }},
		"a name":      {40, func(n int) string { return "let " + strings.Repeat("n", n) }},
		"a field":     {40, func(n int) string { return "a." + strings.Repeat("n", n) + "()" }},
		"a number":    {40, func(n int) string { return "throw " + strings.Repeat("7", n) }},
		"a float":     {38, func(n int) string { return "throw 1." + strings.Repeat("7", n) }},
		"a string":    {4000, func(n int) string { return "throw \"" + strings.Repeat("\xff", n) + "\"" }},
		"elements":    {4000, func(n int) string { return "throw \"" + strings.Repeat("\\n", n) + "\"" }},
		"a text":      {65536, func(n int) string { return "break" + strings.Repeat(" ", n-5) }},
		"newlines":    {65536, func(n int) string { return strings.Repeat("\n", n) }},
		"a long name": {40, func(n int) string { return "\n\n\tx = {\n.a = " + strings.Repeat("n", n) + "}" }},
	} {
		for _, n := range []int{size.most - 1, size.most} {
			wantAnswer(t, size.text(n), "fine")
		}
		for _, n := range []int{size.most + 1, size.most + 2} {
			if got := impl.Answer(size.text(n)); got != "large\n" {
				t.Errorf("%s, %d: %.200q", name, n, got)
			}
		}
	}
	// a text of more than MaxText bytes is too large, well-formed or not
	for _, text := range []string{
		strings.Repeat("}", 65537), strings.Repeat("(", 65537), "@" + strings.Repeat("\n", 65536), strings.Repeat("\x00", 200000),
		strings.Repeat("break\n", 20000), strings.Repeat(" ", 65536) + "@",
	} {
		if got := impl.Answer(text); got != "large\n" {
			t.Errorf("%.20q, %d bytes: %.200q", text, len(text), got)
		}
	}
	// one that is too large and not well-formed has the fault
	wantAnswer(t, many(300, "break", "\n")+"\n}", "fault 301:1")
	wantAnswer(t, "let "+strings.Repeat("n", 50)+" = )", "fault 1:58")
}

func TestP11TextsOfChance(t *testing.T) {
	t.Parallel()
	var d dice = 33
	words := map[string]int{}
	check := func(text string) {
		got := impl.Answer(text)
		wantSameText(t, got, told(text))
		words[got[:5]]++
	}
	for range 500 {
		text, tree := d.inscribed()
		check(text)
		if len(text) <= impl.MaxText && impl.TreeOk(tree).Code == 0 {
			wantSameText(t, impl.Answer(text), "fine\n"+dumped(tree))
		}
		for range 4 {
			text = d.spoilt(text)
			check(text)
		}
	}
	for range 5000 {
		text := ""
		for range 1 + d.roll(9) {
			text += pieceTexts[d.roll(len(pieceTexts))]
		}
		check(text)
	}
	for _, f := range allForms() {
		for i := range len(f.text) + 1 {
			check(f.text[:i])
			check(f.text[:i] + "\xff" + f.text[i:])
			check("\n\xe4\n" + f.text[i:])
		}
		check(f.text + "\nthrow " + strings.Repeat("n", 40+d.roll(2)))
	}
	if words["fine\n"] < 500 || words["fault"] < 500 || words["large"] < 50 {
		t.Error(words)
	}
}
