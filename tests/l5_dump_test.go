package tests

import (
	"fmt"
	"slices"
	"strconv"
	"strings"
	"testing"

	"loop.example/warp/impl"
)

// quoted is a second writing of Quote.
func quoted(content string) string {
	s := ""
	for i := range len(content) {
		switch b := content[i]; {
		case b == '\n':
			s += `\n`
		case b == '\t':
			s += `\t`
		case b == '"' || b == '\\':
			s += `\` + string(rune(b))
		case b < 32 || b > 126:
			s += fmt.Sprintf(`\x%02x`, b)
		default:
			s += string(rune(b))
		}
	}
	return `"` + s + `"`
}

// dumped is a second writing of Dump, for a tree that is sound.
func dumped(x impl.Tree) string {
	var s strings.Builder
	for _, n := range x.Nodes {
		fmt.Fprintf(&s, "%d %d %d %d %d %d %s %d", n.Kind, n.From, n.To, n.Line, n.Op, n.Num, quoted(n.Text), len(n.Names))
		for _, name := range n.Names {
			s.WriteString(" " + name)
		}
		fmt.Fprintf(&s, " %d", len(n.Kids))
		for _, kid := range n.Kids {
			fmt.Fprintf(&s, " %d", kid)
		}
		s.WriteString("\n")
	}
	return s.String()
}

func wantDump(t *testing.T, x impl.Tree, want string) {
	t.Helper()
	wantTree(t, x, 0, 0)
	wantSameText(t, impl.Dump(x), want)
	wantSameText(t, dumped(x), want)
}

// wantFirstLine fails unless the line of the first node of a tree that a twig stands in is this one.
func wantFirstLine(t *testing.T, x twig, want string) {
	t.Helper()
	list, _ := held(x)
	wantDump(t, list, dumped(list))
	if got := impl.Dump(list); !strings.HasPrefix(got, want+"\n") {
		t.Errorf("%.200q, want %.200q", got, want)
	}
}

const eachKindText = `let a, b = nil, true
const c = false
fn f(x, ...) { return 7, 1.5, "s" }
a.b, c[d] = ..., (e())
if a and b {} elif not c {} else { break }
while a or b { next }
for i = 1, 2, 3 {}
for k, v in {1, [2] = 3, .n = 4} {}
try {} catch e, w { throw a + b }
defer f()
f(fn() {})
`

const eachKindDump = `20 11 14 1 0 0 "" 0 0
21 16 20 1 0 0 "" 0 0
2 0 20 1 0 0 "" 2 a b 2 0 1
22 31 36 2 0 0 "" 0 0
3 21 36 2 0 0 "" 1 c 1 3
23 59 60 3 0 7 "" 0 0
24 62 65 3 0 0 "1.5" 0 0
25 67 70 3 0 0 "s" 0 0
13 52 70 3 0 0 "" 0 3 5 6 7
1 50 72 3 0 0 "" 0 1 8
36 41 72 3 1 0 "" 1 x 1 9
4 37 72 3 0 0 "" 1 f 1 10
26 73 74 4 0 0 "a" 0 0
33 73 76 4 0 0 "b" 0 1 12
26 78 79 4 0 0 "c" 0 0
26 80 81 4 0 0 "d" 0 0
32 78 82 4 0 0 "" 0 2 14 15
27 85 88 4 0 0 "" 0 0
26 91 92 4 0 0 "e" 0 0
34 91 94 4 0 0 "" 0 1 18
37 90 95 4 0 0 "" 0 1 19
5 73 95 4 0 2 "" 0 4 13 16 17 20
26 99 100 5 0 0 "a" 0 0
26 105 106 5 0 0 "b" 0 0
28 99 106 5 0 0 "" 0 2 22 23
1 107 109 5 0 0 "" 0 0
26 119 120 5 0 0 "c" 0 0
30 115 120 5 21 0 "" 0 1 26
1 121 123 5 0 0 "" 0 0
11 131 136 5 0 0 "" 0 0
1 129 138 5 0 0 "" 0 1 29
7 110 138 5 0 0 "" 0 3 27 28 30
7 96 138 5 0 0 "" 0 3 24 25 31
26 145 146 6 0 0 "a" 0 0
26 150 151 6 0 0 "b" 0 0
29 145 151 6 0 0 "" 0 2 33 34
12 154 158 6 0 0 "" 0 0
1 152 160 6 0 0 "" 0 1 36
8 139 160 6 0 0 "" 0 2 35 37
23 169 170 7 0 1 "" 0 0
23 172 173 7 0 2 "" 0 0
23 175 176 7 0 3 "" 0 0
1 177 179 7 0 0 "" 0 0
9 161 179 7 0 0 "" 1 i 4 39 40 41 42
23 193 194 8 0 1 "" 0 0
40 193 194 8 0 0 "" 0 1 44
23 197 198 8 0 2 "" 0 0
23 202 203 8 0 3 "" 0 0
41 196 203 8 0 0 "" 0 2 46 47
23 210 211 8 0 4 "" 0 0
42 205 211 8 0 0 "n" 0 1 49
35 192 212 8 0 0 "" 0 3 45 48 50
1 213 215 8 0 0 "" 0 0
10 180 215 8 0 0 "" 2 k v 2 51 52
1 220 222 9 0 0 "" 0 0
26 242 243 9 0 0 "a" 0 0
26 246 247 9 0 0 "b" 0 0
31 242 247 9 1 0 "" 0 2 55 56
15 236 247 9 0 0 "" 0 1 57
1 234 249 9 0 0 "" 0 1 58
14 216 249 9 0 0 "" 2 e w 2 54 59
26 256 257 10 0 0 "f" 0 0
34 256 259 10 0 0 "" 0 1 61
16 250 259 10 0 0 "" 0 1 62
26 260 261 11 0 0 "f" 0 0
1 267 269 11 0 0 "" 0 0
36 262 269 11 0 0 "" 0 1 65
34 260 270 11 0 0 "" 0 2 64 66
6 260 270 11 0 0 "" 0 1 67
1 0 271 1 0 0 "" 0 11 2 4 11 21 32 38 43 53 60 63 68
`

func TestP10DumpOfEachKind(t *testing.T) {
	tree := parsed(t, eachKindText)
	for _, k := range everyKind {
		if !slices.ContainsFunc(tree.Nodes, func(n impl.Node) bool { return n.Kind == k }) {
			t.Errorf("no Kind %d", k)
		}
	}
	wantDump(t, tree, eachKindDump)
	for _, r := range treeRows {
		for _, kids := range r.good {
			list, _ := held(r.with(kids))
			wantDump(t, list, dumped(list))
		}
	}
}

func TestP10DumpByEye(t *testing.T) {
	wantDump(t, text(), "1 0 0 0 0 0 \"\" 0 0\n")
	wantDump(t, text(stopStat), "11 0 0 0 0 0 \"\" 0 0\n1 0 0 0 0 0 \"\" 0 1 0\n")
	wantDump(t, text(stopStat, nextStat), "11 0 0 0 0 0 \"\" 0 0\n12 0 0 0 0 0 \"\" 0 0\n1 0 0 0 0 0 \"\" 0 2 0 1\n")
	odd := impl.Tree{Nodes: []impl.Node{
		{Kind: impl.EStr, From: 1, To: 2, Line: 3, Text: "a b"},
		{Kind: impl.EUnary, From: 4, To: 5, Line: 6, Op: impl.OpLen, Kids: []int{0}},
		{Kind: impl.EInt, From: 7, To: 8, Line: 9, Num: -10},
		{Kind: impl.SLet, From: 11, To: 12, Line: 13, Names: []string{"a", "bc", "_"}, Kids: []int{1, 2}},
		{Kind: impl.SBlock, From: 14, To: 15, Line: 16},
		{Kind: impl.EFn, From: 17, To: 18, Line: 19, Op: 1, Names: []string{"p"}, Kids: []int{4}},
		{Kind: impl.SFn, From: 20, To: 21, Line: 22, Names: []string{"f"}, Kids: []int{5}},
		{Kind: impl.SBlock, From: 23, To: 24, Line: 25, Kids: []int{3, 6}},
	}}
	wantDump(t, odd, `25 1 2 3 0 0 "a b" 0 0
30 4 5 6 22 0 "" 0 1 0
23 7 8 9 0 -10 "" 0 0
2 11 12 13 0 0 "" 3 a bc _ 2 1 2
1 14 15 16 0 0 "" 0 0
36 17 18 19 1 0 "" 1 p 1 4
4 20 21 22 0 0 "" 1 f 1 5
1 23 24 25 0 0 "" 0 2 3 6
`)
}

func TestP10DumpOfTexts(t *testing.T) {
	for b := range 256 {
		content := string([]byte{byte(b)})
		wantFirstLine(t, stringOf(content), "25 0 0 0 0 0 "+quoted(content)+" 0 0")
		wantFirstLine(t, stringOf("a"+content+content+"b"), "25 0 0 0 0 0 "+quoted("a"+content+content+"b")+" 0 0")
	}
	for content, want := range map[string]string{
		"":                         `""`,
		"\n":                       `"\n"`,
		"\t":                       `"\t"`,
		"\"":                       `"\""`,
		"\\":                       `"\\"`,
		"\\n":                      `"\\n"`,
		"\r\x00\x1f\x7f\x80\xff":   `"\x0d\x00\x1f\x7f\x80\xff"`,
		" ~":                       `" ~"`,
		"two  words\nand a line":   `"two  words\nand a line"`,
		"\xc3\xa4":                 `"\xc3\xa4"`,
		strings.Repeat("q", 4000):  `"` + strings.Repeat("q", 4000) + `"`,
		strings.Repeat("\n", 4000): `"` + strings.Repeat(`\n`, 4000) + `"`,
	} {
		wantFirstLine(t, stringOf(content), "25 0 0 0 0 0 "+want+" 0 0")
	}
	long := strings.Repeat("n", 40)
	wantFirstLine(t, nameOf(long), "26 0 0 0 0 0 \""+long+"\" 0 0")
	wantFirstLine(t, floatOf("1.5e-10"), "24 0 0 0 0 0 \"1.5e-10\" 0 0")
	wantFirstLine(t, floatOf(strings.Repeat("7", 40)), "24 0 0 0 0 0 \""+strings.Repeat("7", 40)+"\" 0 0")
}

func TestP10DumpOfPlaces(t *testing.T) {
	const great = 1<<63 - 1
	for _, p := range [][3]int{{0, 0, 0}, {0, 1, 0}, {1, 1, 1}, {9, 10, 11}, {0, great, 0}, {great, great, great}, {65536, 65537, 1 << 40}, {great - 1, great, 0}} {
		want := strconv.Itoa(p[0]) + " " + strconv.Itoa(p[1]) + " " + strconv.Itoa(p[2])
		x := stopStat
		x.From, x.To, x.Line = p[0], p[1], p[2]
		wantFirstLine(t, x, "11 "+want+" 0 0 \"\" 0 0")
		root := text()
		root.Nodes[0].From, root.Nodes[0].To, root.Nodes[0].Line = p[0], p[1], p[2]
		wantDump(t, root, "1 "+want+" 0 0 \"\" 0 0\n")
	}
	wantFirstLine(t, stopStat.at(great, great), "11 9223372036854775807 9223372036854775807 1 0 0 \"\" 0 0")
	// no sound tree has them below 0
	for _, p := range [][3]int{{-1, 0, 0}, {-1, -1, 0}, {0, -1, 0}, {0, 0, -1}, {-1 << 63, great, 1}, {1, 1, -1 << 63}, {1, 0, 0}} {
		x := text(stopStat)
		x.Nodes[0].From, x.Nodes[0].To, x.Nodes[0].Line = p[0], p[1], p[2]
		wantUnsound(t, x)
	}
}

func TestP10DumpOfNumbers(t *testing.T) {
	for num, want := range map[int64]string{
		0: "0", 1: "1", -1: "-1", 10: "10", 1<<31 - 1: "2147483647", 1 << 32: "4294967296",
		1<<63 - 1: "9223372036854775807", -1 << 63: "-9223372036854775808",
	} {
		wantFirstLine(t, intOf(num), "23 0 0 0 0 "+want+" \"\" 0 0")
	}
	for _, targets := range []int{1, 2, 199} {
		x := text(setOf(targets, slices.Repeat([]twig{aName}, 200)...))
		lines := strings.Split(impl.Dump(x), "\n")
		want := "5 0 0 0 0 " + strconv.Itoa(targets) + " \"\" 0 200 0 1 2 "
		if len(lines) != 203 || !strings.HasPrefix(lines[200], want) || !strings.HasSuffix(lines[200], " 198 199") {
			t.Errorf("%d lines, %q", len(lines), lines[200])
		}
		wantDump(t, x, dumped(x))
	}
	for op := 1; op <= 22; op++ {
		x := infixOf("+", aName, bName)
		if op >= impl.OpNeg {
			x = prefixOf(op, aName)
		}
		x.Op = op
		list, place := held(x)
		line := strings.Split(impl.Dump(list), "\n")[place]
		if !strings.HasPrefix(line, strconv.Itoa(x.Kind)+" 0 0 0 "+strconv.Itoa(op)+" 0 ") {
			t.Errorf("Op %d: %q", op, line)
		}
	}
}

func TestP10DumpOfNamesAndKids(t *testing.T) {
	const many = " a a a a a a a a a a a a a a a a a a a a"
	for names, want := range map[string]string{
		"a":                      "1 a",
		"a b":                    "2 a b",
		"b a b":                  "3 b a b",
		"_ _9 Zz":                "3 _ _9 Zz",
		strings.Repeat(many, 10): "200" + strings.Repeat(many, 10),
	} {
		wantFirstLine(t, withNames(impl.SLet, names), "2 0 0 0 0 0 \"\" "+want+" 0")
	}
	long := strings.Repeat("n", 40)
	wantFirstLine(t, withNames(impl.SLet, long+" "+long), "2 0 0 0 0 0 \"\" 2 "+long+" "+long+" 0")
	for n, want := range map[int]string{0: "0", 1: "1 0", 2: "2 0 1", 3: "3 0 1 2", 11: "11 0 1 2 3 4 5 6 7 8 9 10"} {
		x := text(slices.Repeat([]twig{stopStat}, n)...)
		wantDump(t, x, strings.Repeat("11 0 0 0 0 0 \"\" 0 0\n", n)+"1 0 0 0 0 0 \"\" 0 "+want+"\n")
	}
	// lists that are empty and not nil are no other
	x := text(stopStat)
	x.Nodes[0].Names, x.Nodes[0].Kids, x.Nodes[1].Names = []string{}, []int{}, []string{}
	wantDump(t, x, "11 0 0 0 0 0 \"\" 0 0\n1 0 0 0 0 0 \"\" 0 1 0\n")
}

func TestP10DumpAtTheBounds(t *testing.T) {
	t.Parallel()
	wantDump(t, broad(3000), dumped(broad(3000)))
	wantDump(t, chain(100), dumped(chain(100)))
	if got := strings.Count(impl.Dump(broad(3000)), "\n"); got != 3000 {
		t.Error(got)
	}
	names := strings.Fields(strings.Repeat(strings.Repeat("n", 40)+" ", 200))
	root := kind(impl.SBlock)
	for range 200 {
		root.below = append(root.below, tw(impl.Node{Kind: impl.SLet, Names: names}))
	}
	wantDump(t, listed(root), dumped(listed(root)))
}

// No Dump is too long, as a text can be.
func TestP10DumpOfMoreThanMaxText(t *testing.T) {
	t.Parallel()
	line := func(content string) string { return "25 0 0 0 0 0 \"" + content + "\" 0 0\n" }
	for _, n := range []int{16, 17, 199} {
		x := text(kind(impl.SReturn, slices.Repeat([]twig{stringOf(strings.Repeat("q", 4000))}, n)...))
		got := impl.Dump(x)
		if !strings.HasPrefix(got, strings.Repeat(line(strings.Repeat("q", 4000)), n)+"13 ") || !strings.HasSuffix(got, "1 0 0 0 0 0 \"\" 0 1 "+strconv.Itoa(n)+"\n") {
			t.Errorf("%d bytes", len(got))
		}
	}
	// just at MaxText and beyond it
	for _, size := range []int{65535, 65536, 65537} {
		rest := size - len(dumped(text(kind(impl.SReturn, slices.Repeat([]twig{stringOf("")}, 17)...))))
		x := kind(impl.SReturn)
		for range 17 {
			n := min(rest, 4000)
			x.below = append(x.below, stringOf(strings.Repeat("q", n)))
			rest -= n
		}
		if got := impl.Dump(text(x)); len(got) != size || got != dumped(text(x)) {
			t.Errorf("%d bytes, want %d", len(got), size)
		}
	}
	// about as long as a Dump can be
	full := strings.Repeat("\xff", 4000)
	root := kind(impl.SBlock)
	for range 14 {
		root.below = append(root.below, kind(impl.SReturn, slices.Repeat([]twig{stringOf(full)}, 200)...))
	}
	got := impl.Dump(listed(root))
	if want := 2800 * len(line(strings.Repeat(`\xff`, 4000))); len(got) < want || strings.Count(got, `\xff`) != 2800*4000 || strings.Count(got, "\n") != 2815 {
		t.Errorf("%d bytes, want more than %d", len(got), want)
	}
}

func TestP10DumpOfTreesOfChance(t *testing.T) {
	t.Parallel()
	var d dice = 32
	kinds := map[int]int{}
	for range 2000 {
		root := kind(impl.SBlock)
		for range d.roll(5) {
			x := d.grown('s', d.roll(6))
			d.vary(&x)
			root.below = append(root.below, x)
		}
		tree := listed(root)
		if impl.TreeOk(tree).Code != 0 {
			continue
		}
		for i := range tree.Nodes {
			n := &tree.Nodes[i]
			n.From, n.Line = d.roll(70000), d.roll(70000)
			n.To = n.From + d.roll(70000)
			kinds[n.Kind]++
		}
		wantSameText(t, impl.Dump(tree), dumped(tree))
	}
	for _, k := range everyKind {
		if kinds[k] < 50 {
			t.Errorf("Kind %d came %d times", k, kinds[k])
		}
	}
}
