package tests

import (
	"slices"
	"strings"
	"testing"

	"loop.example/warp/impl"
)

// shape is a node as a test asks for it: its piece is its bytes, looked for within those of its parent,
// behind those of the kid ahead of it.
type shape struct {
	node  impl.Node
	piece string
	kids  []shape
}

func sh(node impl.Node, piece string, kids ...shape) shape { return shape{node, piece, kids} }

func of(kind int, piece string, kids ...shape) shape {
	return sh(impl.Node{Kind: kind}, piece, kids...)
}

func nm(name string) shape { return sh(impl.Node{Kind: impl.EName, Text: name}, name) }

func num(piece string, n int64) shape { return sh(impl.Node{Kind: impl.EInt, Num: n}, piece) }

func un(op int, piece string, kid shape) shape {
	return sh(impl.Node{Kind: impl.EUnary, Op: op}, piece, kid)
}

func bin(op int, piece string, left, right shape) shape {
	return sh(impl.Node{Kind: impl.EBinary, Op: op}, piece, left, right)
}

func field(name, piece string, base shape) shape {
	return sh(impl.Node{Kind: impl.EField, Text: name}, piece, base)
}

func call(piece string, kids ...shape) shape { return of(impl.ECall, piece, kids...) }

func block(piece string, stats ...shape) shape { return of(impl.SBlock, piece, stats...) }

func naming(kind int, names, piece string, kids ...shape) shape {
	return sh(impl.Node{Kind: kind, Names: strings.Fields(names)}, piece, kids...)
}

func set(targets int, piece string, kids ...shape) shape {
	return sh(impl.Node{Kind: impl.SSet, Num: int64(targets)}, piece, kids...)
}

// thrown is the SThrow of a text that is one of these alone.
func thrown(text string, kid shape) shape { return of(impl.SThrow, text, kid) }

// twig is a shape with its places, looked for in a text from a place on.
func (s shape) twig(t *testing.T, text string, from, to int) twig {
	t.Helper()
	at := strings.Index(text[from:to], s.piece)
	if at < 0 {
		t.Fatalf("%q is not in %q", s.piece, text[from:to])
	}
	x := tw(s.node)
	x.From, x.To = from+at, from+at+len(s.piece)
	x.Line = 1 + strings.Count(text[:x.From], "\n")
	from = x.From
	for _, kid := range s.kids {
		below := kid.twig(t, text, from, x.To)
		x.below = append(x.below, below)
		from = below.To
	}
	return x
}

func treeOf(t *testing.T, text string, stats []shape) impl.Tree {
	t.Helper()
	root := block(text, stats...).twig(t, text, 0, len(text))
	return listed(root)
}

// parsed is the tree of a well-formed text, which is looked at as P3 and P8 ask for every tree.
func parsed(t *testing.T, text string) impl.Tree {
	t.Helper()
	p := impl.Parse(text)
	if p.Code != 0 || p.At != 0 {
		t.Fatalf("Parse(%.200q): code %d at %d", text, p.Code, p.At)
	}
	wantTree(t, p.Tree, 0, 0)
	wantPlaces(t, text, p.Tree)
	return p.Tree
}

func wantParsed(t *testing.T, text string, stats ...shape) {
	t.Helper()
	wantNodes(t, text, parsed(t, text), treeOf(t, text, stats))
}

func wantNodes(t *testing.T, text string, got, want impl.Tree) {
	t.Helper()
	if sameTree(got, want) {
		return
	}
	got, want = copied(got), copied(want)
	for i := range max(len(got.Nodes), len(want.Nodes)) {
		switch {
		case i >= len(got.Nodes):
			t.Fatalf("Parse(%q): node %d is missing: %+v", text, i, want.Nodes[i])
		case i >= len(want.Nodes):
			t.Fatalf("Parse(%q): node %d is too much: %+v", text, i, got.Nodes[i])
		case !sameTree(impl.Tree{Nodes: got.Nodes[i : i+1]}, impl.Tree{Nodes: want.Nodes[i : i+1]}):
			t.Fatalf("Parse(%q): node %d is\n%+v, want\n%+v", text, i, got.Nodes[i], want.Nodes[i])
		}
	}
}

func wantLarge(t *testing.T, text string) {
	t.Helper()
	if p := impl.Parse(text); p.Code != 2 || p.At != 0 || len(p.Tree.Nodes) != 0 {
		t.Errorf("Parse(%.60q), %d bytes: code %d at %d, %d nodes", text, len(text), p.Code, p.At, len(p.Tree.Nodes))
	}
}

// form is a text and the statements that it is.
type form struct {
	text  string
	stats []shape
}

func stat(text string, s shape) form { return form{text, []shape{s}} }

// statForms is texts of each row of stat and of the rows that it leans on.
func statForms() []form {
	return []form{
		{"", nil},
		{";", nil},
		{"\n", nil},
		{" \t\r", nil},
		{";;\n;\n\n", nil},
		{"-- only a remark", nil},
		{"-- one\n--\n  -- three", nil},
		{"break", []shape{of(impl.SBreak, "break")}},
		{"next", []shape{of(impl.SNext, "next")}},
		{"break;next", []shape{of(impl.SBreak, "break"), of(impl.SNext, "next")}},
		{"\n;break -- r\n\n next ;\n", []shape{of(impl.SBreak, "break"), of(impl.SNext, "next")}},
		{"break\nbreak", []shape{of(impl.SBreak, "break"), of(impl.SBreak, "break")}},

		stat("let a", naming(impl.SLet, "a", "let a")),
		stat("let a, b,c", naming(impl.SLet, "a b c", "let a, b,c")),
		stat("let b = a", naming(impl.SLet, "b", "let b = a", nm("a"))),
		stat("let a, b = c, 1, d", naming(impl.SLet, "a b", "let a, b = c, 1, d", nm("c"), num("1", 1), nm("d"))),
		{"let a\nlet b\n", []shape{naming(impl.SLet, "a", "let a"), naming(impl.SLet, "b", "let b")}},
		stat("let\na\n", naming(impl.SLet, "a", "let\na")),
		stat("let a,\nb =\nc", naming(impl.SLet, "a b", "let a,\nb =\nc", nm("c"))),
		stat("const k = v", naming(impl.SConst, "k", "const k = v", nm("v"))),
		stat("const\nk\n=\nv", naming(impl.SConst, "k", "const\nk\n=\nv", nm("v"))),

		stat("fn f() {}", naming(impl.SFn, "f", "fn f() {}", of(impl.EFn, "() {}", block("{}")))),
		stat("fn f(a) {}", naming(impl.SFn, "f", "fn f(a) {}", naming(impl.EFn, "a", "(a) {}", block("{}")))),
		stat("fn f(a, b) { break }", naming(impl.SFn, "f", "fn f(a, b) { break }",
			naming(impl.EFn, "a b", "(a, b) { break }", block("{ break }", of(impl.SBreak, "break"))))),
		stat("fn f(...) {}", naming(impl.SFn, "f", "fn f(...) {}", sh(impl.Node{Kind: impl.EFn, Op: 1}, "(...) {}", block("{}")))),
		stat("fn f(a, b, ...) {}", naming(impl.SFn, "f", "fn f(a, b, ...) {}",
			sh(impl.Node{Kind: impl.EFn, Op: 1, Names: []string{"a", "b"}}, "(a, b, ...) {}", block("{}")))),
		stat("fn f\n(\n)\n{\n}", naming(impl.SFn, "f", "fn f\n(\n)\n{\n}", of(impl.EFn, "(\n)\n{\n}", block("{\n}")))),
		stat("fn f() { fn g() {} }", naming(impl.SFn, "f", "fn f() { fn g() {} }", of(impl.EFn, "() { fn g() {} }",
			block("{ fn g() {} }", naming(impl.SFn, "g", "fn g() {}", of(impl.EFn, "() {}", block("{}"))))))),

		stat("if a {}", of(impl.SIf, "if a {}", nm("a"), block("{}"))),
		stat("if a {} else {}", of(impl.SIf, "if a {} else {}", nm("a"), block("{}"), block("{}"))),
		stat("if a {} elif b {}", of(impl.SIf, "if a {} elif b {}", nm("a"), block("{}"), of(impl.SIf, "elif b {}", nm("b"), block("{}")))),
		stat("if a{}elif b{}else{}", of(impl.SIf, "if a{}elif b{}else{}", nm("a"), block("{}"),
			of(impl.SIf, "elif b{}else{}", nm("b"), block("{}"), block("{}")))),
		stat("if a {}\telif b {} elif c { ; } else { next }", of(impl.SIf, "if a {}\telif b {} elif c { ; } else { next }", nm("a"), block("{}"),
			of(impl.SIf, "elif b {} elif c { ; } else { next }", nm("b"), block("{}"),
				of(impl.SIf, "elif c { ; } else { next }", nm("c"), block("{ ; }"), block("{ next }", of(impl.SNext, "next")))))),
		stat("if\na\n{\n} else\n{}", of(impl.SIf, "if\na\n{\n} else\n{}", nm("a"), block("{\n}"), block("{}"))),
		stat("if {} {}", of(impl.SIf, "if {} {}", of(impl.ETable, "{}"), block("{}"))),
		{"if a {}\nif b {}", []shape{of(impl.SIf, "if a {}", nm("a"), block("{}")), of(impl.SIf, "if b {}", nm("b"), block("{}"))}},
		stat("if a { if b {} } else {}", of(impl.SIf, "if a { if b {} } else {}", nm("a"),
			block("{ if b {} }", of(impl.SIf, "if b {}", nm("b"), block("{}"))), block("{}"))),
		stat("while a { break }", of(impl.SWhile, "while a { break }", nm("a"), block("{ break }", of(impl.SBreak, "break")))),
		stat("while\na\n{}", of(impl.SWhile, "while\na\n{}", nm("a"), block("{}"))),

		stat("for i = 1, 2 {}", naming(impl.SFor, "i", "for i = 1, 2 {}", num("1", 1), num("2", 2), block("{}"))),
		stat("for i = 1, 2, 3 {}", naming(impl.SFor, "i", "for i = 1, 2, 3 {}", num("1", 1), num("2", 2), num("3", 3), block("{}"))),
		stat("for\ni\n=\n1\n,\n2\n{}", naming(impl.SFor, "i", "for\ni\n=\n1\n,\n2\n{}", num("1", 1), num("2", 2), block("{}"))),
		stat("for i = a, {} {}", naming(impl.SFor, "i", "for i = a, {} {}", nm("a"), of(impl.ETable, "{}"), block("{}"))),
		stat("for k in t {}", naming(impl.SEach, "k", "for k in t {}", nm("t"), block("{}"))),
		stat("for k, v, w in t {}", naming(impl.SEach, "k v w", "for k, v, w in t {}", nm("t"), block("{}"))),
		stat("for k\n,\nv\nin\nt\n{}", naming(impl.SEach, "k v", "for k\n,\nv\nin\nt\n{}", nm("t"), block("{}"))),

		stat("return", of(impl.SReturn, "return")),
		stat("return a", of(impl.SReturn, "return a", nm("a"))),
		stat("return a, b ,c", of(impl.SReturn, "return a, b ,c", nm("a"), nm("b"), nm("c"))),
		{"return\nf()", []shape{of(impl.SReturn, "return"), of(impl.SDo, "f()", call("f()", nm("f")))}},
		stat("{ return }", block("{ return }", of(impl.SReturn, "return"))),
		stat("{return;}", block("{return;}", of(impl.SReturn, "return"))),
		stat("return {}", of(impl.SReturn, "return {}", of(impl.ETable, "{}"))),
		stat("try {} catch e {}", naming(impl.STry, "e", "try {} catch e {}", block("{}"), block("{}"))),
		stat("try {} catch e, w {}", naming(impl.STry, "e w", "try {} catch e, w {}", block("{}"), block("{}"))),
		stat("try\n{ break }\ncatch\ne\n,\nw\n{\n}", naming(impl.STry, "e w", "try\n{ break }\ncatch\ne\n,\nw\n{\n}",
			block("{ break }", of(impl.SBreak, "break")), block("{\n}"))),
		stat("throw a", of(impl.SThrow, "throw a", nm("a"))),
		stat("throw\na", of(impl.SThrow, "throw\na", nm("a"))),
		stat("defer g()", of(impl.SDefer, "defer g()", call("g()", nm("g")))),
		stat("defer g.h[i](1)", of(impl.SDefer, "defer g.h[i](1)", call("g.h[i](1)",
			of(impl.EIndex, "g.h[i]", field("h", "g.h", nm("g")), nm("i")), num("1", 1)))),
		stat("defer (g)()", of(impl.SDefer, "defer (g)()", call("(g)()", nm("g")))),
		stat("defer g()()", of(impl.SDefer, "defer g()()", call("g()()", call("g()", nm("g"))))),
		stat("defer\ng\n(\n)", of(impl.SDefer, "defer\ng\n(\n)", call("g\n(\n)", nm("g")))),
		stat("{}", block("{}")),
		stat(" { { } ; {} } ", block("{ { } ; {} }", block("{ }"), block("{}"))),
		{"{}\n{}", []shape{block("{}"), block("{}")}},

		stat("x = a", set(1, "x = a", nm("x"), nm("a"))),
		stat("x = a, b", set(1, "x = a, b", nm("x"), nm("a"), nm("b"))),
		stat("x, y = a", set(2, "x, y = a", nm("x"), nm("y"), nm("a"))),
		stat("x.y, z[1], w = a, b", set(3, "x.y, z[1], w = a, b", field("y", "x.y", nm("x")),
			of(impl.EIndex, "z[1]", nm("z"), num("1", 1)), nm("w"), nm("a"), nm("b"))),
		stat("(x).y = a", set(1, "(x).y = a", field("y", "(x).y", nm("x")), nm("a"))),
		stat("x, (y)[z] = a", set(2, "x, (y)[z] = a", nm("x"), of(impl.EIndex, "(y)[z]", nm("y"), nm("z")), nm("a"))),
		stat("f().x = a", set(1, "f().x = a", field("x", "f().x", call("f()", nm("f"))), nm("a"))),
		stat("x, f()[y] = a", set(2, "x, f()[y] = a", nm("x"), of(impl.EIndex, "f()[y]", call("f()", nm("f")), nm("y")), nm("a"))),
		stat("x\n.y\n,\nz\n=\na", set(2, "x\n.y\n,\nz\n=\na", field("y", "x\n.y", nm("x")), nm("z"), nm("a"))),
		stat("f()", of(impl.SDo, "f()", call("f()", nm("f")))),
		stat("f(a, b)", of(impl.SDo, "f(a, b)", call("f(a, b)", nm("f"), nm("a"), nm("b")))),
		stat("f\n(1)", of(impl.SDo, "f\n(1)", call("f\n(1)", nm("f"), num("1", 1)))),
		{"f()\n(g)()", []shape{of(impl.SDo, "f()", call("f()", nm("f"))), of(impl.SDo, "(g)()", call("(g)()", nm("g")))}},
		stat("f() (g)()", of(impl.SDo, "f() (g)()", call("f() (g)()", call("f() (g)", call("f()", nm("f")), nm("g"))))),
		stat("(f)\n()", of(impl.SDo, "(f)\n()", call("(f)\n()", nm("f")))),
		stat("({})()", of(impl.SDo, "({})()", call("({})()", of(impl.ETable, "{}")))),
		{"x = a\ny = b", []shape{set(1, "x = a", nm("x"), nm("a")), set(1, "y = b", nm("y"), nm("b"))}},
		{"x = a -- r\n(f)()", []shape{set(1, "x = a", nm("x"), nm("a")), of(impl.SDo, "(f)()", call("(f)()", nm("f")))}},
	}
}

// exprForms is texts of each row of expr, all of them thrown.
func exprForms() []form {
	leaf := func(kind int, piece string) form {
		return stat("throw "+piece, thrown("throw "+piece, of(kind, piece)))
	}
	word := func(kind int, piece, content string) form {
		return stat("throw "+piece, thrown("throw "+piece, sh(impl.Node{Kind: kind, Text: content}, piece)))
	}
	expr := func(s shape) form { return stat("throw "+s.piece, thrown("throw "+s.piece, s)) }
	in := func(piece string, s shape) form { return stat("throw "+piece, thrown("throw "+piece, s)) }
	item := func(s shape) shape { return of(impl.NItem, s.piece, s) }
	return []form{
		leaf(impl.ENil, "nil"), leaf(impl.ETrue, "true"), leaf(impl.EFalse, "false"), leaf(impl.ERest, "..."), leaf(impl.ETable, "{}"),
		word(impl.EFlt, "1.5", "1.5"), word(impl.EFlt, "9223372036854775808", "9223372036854775808"), word(impl.EFlt, "0e-7", "0e-7"),
		word(impl.EStr, `""`, ""), word(impl.EStr, `"\x41\n"`, "A\n"), word(impl.EStr, `"-- if"`, "-- if"),
		word(impl.EName, "nill", "nill"),
		expr(num("0", 0)), expr(num("9223372036854775807", 1<<63-1)), expr(num("0xffffffffffffffff", -1)),

		expr(of(impl.EFn, "fn() {}", block("{}"))),
		expr(naming(impl.EFn, "a b", "fn(a, b) {}", block("{}"))),
		expr(sh(impl.Node{Kind: impl.EFn, Op: 1, Names: []string{"a"}}, "fn\n(a\n,\n...\n)\n{\n}", block("{\n}"))),
		expr(of(impl.EFn, "fn() { return fn(...) {} }", block("{ return fn(...) {} }", of(impl.SReturn, "return fn(...) {}",
			sh(impl.Node{Kind: impl.EFn, Op: 1}, "fn(...) {}", block("{}")))))),
		expr(of(impl.EFn, "fn() {\nf()\n(g)() }", block("{\nf()\n(g)() }", of(impl.SDo, "f()", call("f()", nm("f"))),
			of(impl.SDo, "(g)()", call("(g)()", nm("g")))))),

		expr(field("b", "a.b", nm("a"))),
		expr(of(impl.EIndex, "a[b]", nm("a"), nm("b"))),
		expr(call("a()", nm("a"))),
		expr(call("a(b, c, ...)", nm("a"), nm("b"), nm("c"), of(impl.ERest, "..."))),
		expr(call("a(\nb\n,\nc\n)", nm("a"), nm("b"), nm("c"))),
		expr(of(impl.EIndex, "a.b(c)[d\n]", call("a.b(c)", field("b", "a.b", nm("a")), nm("c")), nm("d"))),
		expr(field("d", "a()()\t.b.d", field("b", "a()()\t.b", call("a()()", call("a()", nm("a")))))),
		expr(field("if_", "a.if_", nm("a"))),
		expr(of(impl.EIndex, "a[b[c]]", nm("a"), of(impl.EIndex, "b[c]", nm("b"), nm("c")))),
		expr(of(impl.EIndex, "a[(b)]", nm("a"), nm("b"))),
		expr(field("b", "(1).b", num("1", 1))),
		expr(call("(fn() {})()", of(impl.EFn, "fn() {}", block("{}")))),
		expr(of(impl.EIndex, "({a})[b]", of(impl.ETable, "{a}", item(nm("a"))), nm("b"))),
		in("(((a)).b)", field("b", "((a)).b", nm("a"))),

		in("(a)", nm("a")),
		in("(( a ))", nm("a")),
		in("(\na\n)", nm("a")),
		in("(a.b)", field("b", "a.b", nm("a"))),
		in("(a + b)", bin(impl.OpAdd, "a + b", nm("a"), nm("b"))),
		in("({})", of(impl.ETable, "{}")),
		in("(a())", of(impl.EOne, "(a())", call("a()", nm("a")))),
		in("(...)", of(impl.EOne, "(...)", of(impl.ERest, "..."))),
		in("((a()))", of(impl.EOne, "(a())", call("a()", nm("a")))),
		in("(((...)))", of(impl.EOne, "(...)", of(impl.ERest, "..."))),
		in("( (a)() )", of(impl.EOne, "( (a)() )", call("(a)()", nm("a")))),
		in("(a()())", of(impl.EOne, "(a()())", call("a()()", call("a()", nm("a"))))),
		in("(a()).b", field("b", "(a()).b", of(impl.EOne, "(a())", call("a()", nm("a"))))),
		in("((a())).b", field("b", "((a())).b", of(impl.EOne, "(a())", call("a()", nm("a"))))),
		in("(a().b)", field("b", "a().b", call("a()", nm("a")))),
		in("((...)())", of(impl.EOne, "((...)())", call("(...)()", of(impl.EOne, "(...)", of(impl.ERest, "..."))))),
		in("a((b), (c()), (...))", call("a((b), (c()), (...))", nm("a"), nm("b"), of(impl.EOne, "(c())", call("c()", nm("c"))),
			of(impl.EOne, "(...)", of(impl.ERest, "...")))),
		in("(a) + (b)", bin(impl.OpAdd, "(a) + (b)", nm("a"), nm("b"))),
		in("((a)) + ((b + c))", bin(impl.OpAdd, "((a)) + ((b + c))", nm("a"), bin(impl.OpAdd, "b + c", nm("b"), nm("c")))),
		in("(a() + b)", bin(impl.OpAdd, "a() + b", call("a()", nm("a")), nm("b"))),
		in("(a())\t+ (...)", bin(impl.OpAdd, "(a())\t+ (...)", of(impl.EOne, "(a())", call("a()", nm("a"))), of(impl.EOne, "(...)", of(impl.ERest, "...")))),
		in("-(a)", un(impl.OpNeg, "-(a)", nm("a"))),
		in("(-a)", un(impl.OpNeg, "-a", nm("a"))),
		in("- -a", un(impl.OpNeg, "- -a", un(impl.OpNeg, "-a", nm("a")))),
		in("not not a", un(impl.OpNot, "not not a", un(impl.OpNot, "not a", nm("a")))),
		in("#~-not a.b", un(impl.OpLen, "#~-not a.b", un(impl.OpFlip, "~-not a.b", un(impl.OpNeg, "-not a.b", un(impl.OpNot, "not a.b", field("b", "a.b", nm("a"))))))),
		in("~~a()", un(impl.OpFlip, "~~a()", un(impl.OpFlip, "~a()", call("a()", nm("a"))))),
		in("-\na", un(impl.OpNeg, "-\na", nm("a"))),
		in("(-a).b", field("b", "(-a).b", un(impl.OpNeg, "-a", nm("a")))),
		in("-a.b", un(impl.OpNeg, "-a.b", field("b", "a.b", nm("a")))),
		in("a - -b", bin(impl.OpSub, "a - -b", nm("a"), un(impl.OpNeg, "-b", nm("b")))),
		in("a ~ ~b", bin(impl.OpXor, "a ~ ~b", nm("a"), un(impl.OpFlip, "~b", nm("b")))),
		in("1..2", bin(impl.OpJoin, "1..2", num("1", 1), num("2", 2))),
		in("1and 2or 3", of(impl.EOr, "1and 2or 3", of(impl.EAnd, "1and 2", num("1", 1), num("2", 2)), num("3", 3))),
		in("a\t+\n\n b", bin(impl.OpAdd, "a\t+\n\n b", nm("a"), nm("b"))),
		in("(a\n+ b)", bin(impl.OpAdd, "a\n+ b", nm("a"), nm("b"))),

		in("{a}", of(impl.ETable, "{a}", item(nm("a")))),
		in("{a,}", of(impl.ETable, "{a,}", item(nm("a")))),
		in("{a, b}", of(impl.ETable, "{a, b}", item(nm("a")), item(nm("b")))),
		in("{.b = a}", of(impl.ETable, "{.b = a}", sh(impl.Node{Kind: impl.NNamed, Text: "b"}, ".b = a", nm("a")))),
		in("{.b = a,}", of(impl.ETable, "{.b = a,}", sh(impl.Node{Kind: impl.NNamed, Text: "b"}, ".b = a", nm("a")))),
		in("{[a] = b}", of(impl.ETable, "{[a] = b}", of(impl.NPair, "[a] = b", nm("a"), nm("b")))),
		in("{[a] = b,}", of(impl.ETable, "{[a] = b,}", of(impl.NPair, "[a] = b", nm("a"), nm("b")))),
		in("{(a), [(b)] = (c), .d = (e)}", of(impl.ETable, "{(a), [(b)] = (c), .d = (e)}", of(impl.NItem, "(a)", nm("a")),
			of(impl.NPair, "[(b)] = (c)", nm("b"), nm("c")), sh(impl.Node{Kind: impl.NNamed, Text: "d"}, ".d = (e)", nm("e")))),
		in("{\na\n,\n[\nb\n]\n=\nc\n,\n.\nd\n=\ne\n,\n}", of(impl.ETable, "{\na\n,\n[\nb\n]\n=\nc\n,\n.\nd\n=\ne\n,\n}", item(nm("a")),
			of(impl.NPair, "[\nb\n]\n=\nc", nm("b"), nm("c")), sh(impl.Node{Kind: impl.NNamed, Text: "d"}, ".\nd\n=\ne", nm("e")))),
		in("{{}, {{}}}", of(impl.ETable, "{{}, {{}}}", item(of(impl.ETable, "{}")), item(of(impl.ETable, "{{}}", item(of(impl.ETable, "{}")))))),
		in("{..., (...)}", of(impl.ETable, "{..., (...)}", item(of(impl.ERest, "...")), item(of(impl.EOne, "(...)", of(impl.ERest, "..."))))),
		in("{fn() { a()\nb() }, .c = fn() {}}", of(impl.ETable, "{fn() { a()\nb() }, .c = fn() {}}",
			item(of(impl.EFn, "fn() { a()\nb() }", block("{ a()\nb() }", of(impl.SDo, "a()", call("a()", nm("a"))), of(impl.SDo, "b()", call("b()", nm("b")))))),
			sh(impl.Node{Kind: impl.NNamed, Text: "c"}, ".c = fn() {}", of(impl.EFn, "fn() {}", block("{}"))))),
	}
}

func allForms() []form { return append(statForms(), exprForms()...) }

func TestP3EachForm(t *testing.T) {
	for _, f := range allForms() {
		wantParsed(t, f.text, f.stats...)
	}
}

func TestP3FormsBehindOneAnother(t *testing.T) {
	forms := allForms()
	for i, f := range forms {
		g := forms[(i*7+3)%len(forms)]
		text := "\r" + f.text + ";" + g.text + "\n"
		if strings.Contains(f.text, "--") {
			text = f.text + "\n" + g.text
		}
		wantParsed(t, text, slices.Concat(f.stats, g.stats)...)
	}
}

func TestP3FormsInBlocks(t *testing.T) {
	for _, f := range allForms() {
		body := "{\n" + f.text + "\n}"
		wantParsed(t, body, block(body, f.stats...))
		fn := "throw ( {fn ()" + body + "} )"
		wantParsed(t, fn, thrown(fn, of(impl.ETable, "{fn ()"+body+"}",
			of(impl.NItem, "fn ()"+body, of(impl.EFn, "fn ()"+body, block(body, f.stats...))))))
	}
}

// infixSigns holds the infixes by power, from 1 on.
var infixSigns = [][]string{
	{"or"}, {"and"}, {"==", "~=", "<", "<=", ">", ">="}, {".."}, {"|"}, {"~"}, {"&"}, {"<<", ">>"}, {"+", "-"}, {"*", "/", "//", "%"},
}

func allInfixes() []string { return slices.Concat(infixSigns...) }

func powerOf(sign string) int {
	return 1 + slices.IndexFunc(infixSigns, func(signs []string) bool { return slices.Contains(signs, sign) })
}

// infixed is the shape of an infix with its operands.
func infixed(sign, piece string, left, right shape) shape {
	switch sign {
	case "and":
		return of(impl.EAnd, piece, left, right)
	case "or":
		return of(impl.EOr, piece, left, right)
	}
	for kind, text := range fixed {
		if kind > impl.TBinary && text == sign {
			return bin(kind-impl.TBinary, piece, left, right)
		}
	}
	panic(sign)
}

// split is the shape of operands with signs between them: the sign that binds least is the outermost,
// the last of these, but of two .. the first.
func split(operands []shape, signs []string) shape {
	if len(signs) == 0 {
		return operands[0]
	}
	at := 0
	for i, sign := range signs {
		if p, q := powerOf(sign), powerOf(signs[at]); p < q || p == q && sign != ".." {
			at = i
		}
	}
	piece := operands[0].piece
	for i, sign := range signs {
		piece += " " + sign + " " + operands[i+1].piece
	}
	return infixed(signs[at], piece, split(operands[:at+1], signs[:at]), split(operands[at+1:], signs[at+1:]))
}

func wantSplit(t *testing.T, operands []shape, signs []string) {
	t.Helper()
	s := split(operands, signs)
	text := "throw " + s.piece
	wantParsed(t, text, thrown(text, s))
}

func TestP3EachInfixBesideEach(t *testing.T) {
	t.Parallel()
	x, y, z, w := nm("x"), nm("y"), nm("z"), nm("k")
	prefixes := map[string]int{"not ": impl.OpNot, "-": impl.OpNeg, "#": impl.OpLen, "~": impl.OpFlip}
	for _, a := range allInfixes() {
		wantSplit(t, []shape{x, y}, []string{a})
		for _, b := range allInfixes() {
			wantSplit(t, []shape{x, y, z}, []string{a, b})
			for _, c := range allInfixes() {
				wantSplit(t, []shape{x, y, z, w}, []string{a, b, c})
			}
		}
		for sign, op := range prefixes {
			px, py := un(op, sign+"x", x), un(op, sign+"y", y)
			wantSplit(t, []shape{px, py}, []string{a})
			for other, inner := range prefixes {
				if sign == "-" && other == "-" {
					continue
				}
				wantSplit(t, []shape{z, un(op, sign+other+"y", un(inner, other+"y", y)), w}, []string{a, a})
			}
		}
	}
}

func TestP3TheInfixThatBindsIsTold(t *testing.T) {
	wantParsed(t, "throw a .. b .. c", thrown("throw a .. b .. c", bin(impl.OpJoin, "a .. b .. c", nm("a"), bin(impl.OpJoin, "b .. c", nm("b"), nm("c")))))
	wantParsed(t, "throw a - b - c", thrown("throw a - b - c", bin(impl.OpSub, "a - b - c", bin(impl.OpSub, "a - b", nm("a"), nm("b")), nm("c"))))
	wantParsed(t, "throw a .. b + c .. d", thrown("throw a .. b + c .. d", bin(impl.OpJoin, "a .. b + c .. d", nm("a"),
		bin(impl.OpJoin, "b + c .. d", bin(impl.OpAdd, "b + c", nm("b"), nm("c")), nm("d")))))
	wantParsed(t, "throw a .. b == c .. d", thrown("throw a .. b == c .. d", bin(impl.OpEq, "a .. b == c .. d",
		bin(impl.OpJoin, "a .. b", nm("a"), nm("b")), bin(impl.OpJoin, "c .. d", nm("c"), nm("d")))))
	wantParsed(t, "throw (a .. b) .. c", thrown("throw (a .. b) .. c", bin(impl.OpJoin, "(a .. b) .. c", bin(impl.OpJoin, "a .. b", nm("a"), nm("b")), nm("c"))))
	wantParsed(t, "throw a - (b - c)", thrown("throw a - (b - c)", bin(impl.OpSub, "a - (b - c)", nm("a"), bin(impl.OpSub, "b - c", nm("b"), nm("c")))))
	wantParsed(t, "throw a < b < c", thrown("throw a < b < c", bin(impl.OpLt, "a < b < c", bin(impl.OpLt, "a < b", nm("a"), nm("b")), nm("c"))))
	wantParsed(t, "throw not a == b", thrown("throw not a == b", bin(impl.OpEq, "not a == b", un(impl.OpNot, "not a", nm("a")), nm("b"))))
	wantParsed(t, "throw a or b and c or d", thrown("throw a or b and c or d", of(impl.EOr, "a or b and c or d",
		of(impl.EOr, "a or b and c", nm("a"), of(impl.EAnd, "b and c", nm("b"), nm("c"))), nm("d"))))
	wantParsed(t, "throw a | b ~ c & d << k + m * n", thrown("throw a | b ~ c & d << k + m * n", bin(impl.OpOr, "a | b ~ c & d << k + m * n", nm("a"),
		bin(impl.OpXor, "b ~ c & d << k + m * n", nm("b"), bin(impl.OpAnd, "c & d << k + m * n", nm("c"), bin(impl.OpShl, "d << k + m * n", nm("d"),
			bin(impl.OpAdd, "k + m * n", nm("k"), bin(impl.OpMul, "m * n", nm("m"), nm("n")))))))))
}

func TestP3LongRowsOfInfixes(t *testing.T) {
	var d dice = 5
	signs := allInfixes()
	for range 2000 {
		operands := []shape{nm("a")}
		var between []string
		for range d.roll(12) {
			sign := signs[d.roll(len(signs))]
			if d.roll(3) == 0 {
				sign = ".."
			}
			between = append(between, sign)
			operands = append(operands, []shape{nm("b"), un(impl.OpNeg, "-b", nm("b")), call("b()", nm("b"))}[d.roll(3)])
		}
		wantSplit(t, operands, between)
	}
}

func TestP3Newlines(t *testing.T) {
	fx := func(piece string) shape { return of(impl.SDo, piece, call(piece, nm("f"))) }
	// behind an infix and within brackets a newline is a blank
	wantParsed(t, "x = a +\nb", set(1, "x = a +\nb", nm("x"), bin(impl.OpAdd, "a +\nb", nm("a"), nm("b"))))
	wantParsed(t, "x = a[\nb\n]\nf()", set(1, "x = a[\nb\n]", nm("x"), of(impl.EIndex, "a[\nb\n]", nm("a"), nm("b"))), fx("f()"))
	wantParsed(t, "x = (a\n.b\n)\nf()", set(1, "x = (a\n.b\n)", nm("x"), field("b", "a\n.b", nm("a"))), fx("f()"))
	wantParsed(t, "x = {a\n}\nf()", set(1, "x = {a\n}", nm("x"), of(impl.ETable, "{a\n}", of(impl.NItem, "a", nm("a")))), fx("f()"))
	// a call may begin on the next line where the statement cannot end
	wantParsed(t, "f\n\n()\nf()", fx("f\n\n()"), fx("f()"))
	wantParsed(t, "x = a\n(f)()", set(1, "x = a", nm("x"), nm("a")), of(impl.SDo, "(f)()", call("(f)()", nm("f"))))
	wantParsed(t, "throw (a\n(f)())", thrown("throw (a\n(f)())", of(impl.EOne, "(a\n(f)())", call("a\n(f)()", call("a\n(f)", nm("a"), nm("f"))))))
	wantParsed(t, "if a\n(f)() {}", of(impl.SIf, "if a\n(f)() {}", call("a\n(f)()", call("a\n(f)", nm("a"), nm("f"))), block("{}")))
	// within a block within brackets a newline separates again
	wantParsed(t, "f(fn() {\nf()\nf()\n}\n)", of(impl.SDo, "f(fn() {\nf()\nf()\n}\n)", call("f(fn() {\nf()\nf()\n}\n)", nm("f"),
		of(impl.EFn, "fn() {\nf()\nf()\n}", block("{\nf()\nf()\n}", fx("f()"), fx("f()"))))))
	for text, at := range map[string]int{
		"x = a\n+ b":         6,
		"x = a\n.. b":        6,
		"f()\n.g()":          4,
		"f()\n[1]()":         4,
		"let a\n, b":         6,
		"let a\n= b":         6,
		"return\n1":          7,
		"if a {}\nelse {}":   12,
		"if a {}\nelif b {}": 12,
		"x = a\nand b":       9,
		"x = (a\nb)":         7,
		"x = {a\nb}":         7,
		"x = a[b\nc]":        8,
		"f(a\nb)":            4,
		"f\n":                2,
		"x = \n":             5,
		"f(\n":               3,
		"x = fn()\n":         9,
		"defer f\n":          8,
		"if a\n":             5,
		"try {}\n":           7,
	} {
		wantAt(t, text, at)
	}
}

func TestP3ThePlacesOfTheText(t *testing.T) {
	for _, text := range []string{"", " ", "\n\n", "\n break ; \n--r", "-- r\n\tbreak", ";"} {
		x := parsed(t, text)
		last := x.Nodes[len(x.Nodes)-1]
		if last.Kind != impl.SBlock || last.From != 0 || last.To != len(text) || last.Line != 1 {
			t.Errorf("%q: %+v", text, last)
		}
	}
	wantParsed(t, "\n\n {\n\n break\n} \n", block("{\n\n break\n}", of(impl.SBreak, "break")))
}

// many is n pieces with something between each two.
func many(n int, piece, between string) string {
	return strings.TrimSuffix(strings.Repeat(piece+between, n), between)
}

func TestP3HowManyKidsAndNames(t *testing.T) {
	for _, c := range []struct {
		most                         int
		ahead, piece, between, after string
	}{
		{200, "", "break", ";", ""},
		{200, "", "f()", "\n", ""},
		{200, "{", "break", ";", "}"},
		{200, "fn f() {", "break", ";", "}"},
		{200, "let ", "a", ",", ""},
		{200, "let a = ", "b", ",", ""},
		{200, "for ", "a", ",", " in b {}"},
		{200, "return ", "a", ",", ""},
		{200, "fn f(", "a", ",", ") {}"},
		{200, "fn f(", "a", ",", ",...) {}"},
		{199, "", "x", ",", " = a"},
		{199, "x = ", "a", ",", ""},
		{198, "x, y = ", "a", ",", ""},
		{199, "f(", "a", ",", ")"},
		{200, "x = {", "1", ",", "}"},
		{200, "x = {", "1", ",", ",}"},
		{200, "x = {", ".a=1", ",", "}"},
		{200, "x = {", "[2]=1", ",", "}"},
	} {
		for _, n := range []int{c.most - 1, c.most} {
			parsed(t, c.ahead+many(n, c.piece, c.between)+c.after)
		}
		for _, n := range []int{c.most + 1, c.most + 2, 1000} {
			wantLarge(t, c.ahead+many(n, c.piece, c.between)+c.after)
		}
	}
}

func TestP3HowManyNodes(t *testing.T) {
	size := func(n int) string {
		text := ""
		for i := range 200 {
			extra := (n - 201) / 200
			if i < (n-201)%200 {
				extra++
			}
			text += "{" + many(extra, "break", ";") + "}\n"
		}
		return text
	}
	for _, n := range []int{2999, 3000} {
		if x := parsed(t, size(n)); len(x.Nodes) != n {
			t.Errorf("%d nodes, want %d", len(x.Nodes), n)
		}
	}
	for _, n := range []int{3001, 3002, 6000} {
		wantLarge(t, size(n))
	}
}

func TestP3HowDeep(t *testing.T) {
	t.Parallel()
	for _, c := range []struct {
		most                     int
		ahead, open, core, close string
	}{
		{99, "", "{", "{}", "}"},
		{98, "throw ", "not ", "a", ""},
		{98, "throw ", "~", "a", ""},
		{98, "throw ", "a .. ", "a", ""},
		{98, "throw a", "", "", " + a"},
		{98, "throw a", "", "", " and a"},
		{98, "throw a", "", "", ".b"},
		{98, "throw a", "", "", "[1]"},
		{98, "throw a", "", "", "()"},
		{98, "throw ", "f(", "a", ")"},
		{98, "throw ", "a[", "b", "]"},
		{49, "throw ", "{", "1", "}"},
		{49, "throw ", "{.a=", "1", "}"},
		{48, "throw ", "(", "f()", ")()"},
		{98, "if a {}", "", "", " elif a {}"},
		{98, "if a {}", "", "", " elif a {} else {}"},
		{50, "", "if a {", "", "}"},
		{50, "", "while a {", "", "}"},
		{33, "", "fn f() {", "break", "}"},
		{33, "", "throw fn() {", "break", "}"},
	} {
		deep := func(n int) string {
			if c.close == " elif a {} else {}" {
				return c.ahead + strings.Repeat(" elif a {}", n) + " else {}"
			}
			return c.ahead + strings.Repeat(c.open, n) + c.core + strings.Repeat(c.close, n)
		}
		for _, n := range []int{c.most - 1, c.most} {
			parsed(t, deep(n))
		}
		for _, n := range []int{c.most + 1, c.most + 2, 3000} {
			wantLarge(t, deep(n))
		}
	}
	// parentheses are no nodes
	parsed(t, "throw "+strings.Repeat("(", 30000)+"a"+strings.Repeat(")", 30000))
	parsed(t, "throw "+strings.Repeat("(", 30000)+"f()"+strings.Repeat(")", 30000))
	wantLarge(t, "throw "+strings.Repeat("{", 30000)+strings.Repeat("}", 30000))
	wantLarge(t, strings.Repeat("{", 32768)+strings.Repeat("}", 32768))
	wantLarge(t, "throw "+strings.Repeat("~", 65000)+"a")
	wantLarge(t, "throw "+strings.Repeat("a..", 20000)+"a")
	wantLarge(t, "throw "+strings.Repeat("a+", 32000)+"a")
	wantLarge(t, strings.Repeat("throw fn(){", 5000)+strings.Repeat("}", 5000))
}

func TestP3LongNamesNumbersAndStrings(t *testing.T) {
	for _, around := range []string{
		"let *", "let a, * = 1", "const * = 1", "fn *() {}", "fn f(*) {}", "fn f(a, *, ...) {}", "throw fn(*) {}", "for * = 1, 2 {}",
		"for * in a {}", "for a, * in b {}", "try {} catch * {}", "try {} catch a, * {}", "*()", "* = 1", "x, * = 1", "x.* = 1", "f(*)", "throw *",
		"throw a.*", "throw {.* = 1}", "defer *()", "return *", "if * {}", "*.a()", "x = a[*]",
	} {
		for _, n := range []int{1, 39, 40} {
			parsed(t, strings.ReplaceAll(around, "*", strings.Repeat("n", n)))
		}
		for _, n := range []int{41, 42, 60000} {
			wantLarge(t, strings.ReplaceAll(around, "*", strings.Repeat("n", n)))
		}
	}
	for _, around := range []string{"throw *", "x = {*}", "f(a, *)", "for i = *, 2 {}", "x[*] = 1"} {
		for _, n := range []int{20, 39, 40} {
			parsed(t, strings.ReplaceAll(around, "*", strings.Repeat("7", n)))
			parsed(t, strings.ReplaceAll(around, "*", "1."+strings.Repeat("7", n-2)))
		}
		for _, n := range []int{41, 42, 60000} {
			wantLarge(t, strings.ReplaceAll(around, "*", strings.Repeat("7", n)))
			wantLarge(t, strings.ReplaceAll(around, "*", "1e"+strings.Repeat("7", n-2)))
		}
		for _, n := range []int{0, 3999, 4000} {
			parsed(t, strings.ReplaceAll(around, "*", `"`+strings.Repeat("7", n)+`"`))
			parsed(t, strings.ReplaceAll(around, "*", `"`+strings.Repeat(`\x00`, n)+`"`))
		}
		for _, n := range []int{4001, 4002, 15000} {
			wantLarge(t, strings.ReplaceAll(around, "*", `"`+strings.Repeat("7", n)+`"`))
			wantLarge(t, strings.ReplaceAll(around, "*", `"`+strings.Repeat(`\n`, n)+`"`))
		}
	}
	// an int is a number, however many zeros are ahead of it
	parsed(t, "throw 0x0000000000000001")
}

func TestP3LongTexts(t *testing.T) {
	fill := func(text, with string, size int) string {
		return text + strings.Repeat(with, (size-len(text))/len(with)) + strings.Repeat(" ", (size-len(text))%len(with))
	}
	for _, with := range []string{" ", "\n", ";", "\r", ";\n", "-"} {
		text := fill("f()--", with, 65536)
		if with != "-" {
			text = fill("f()", with, 65536)
		}
		x := parsed(t, text)
		if last := x.Nodes[len(x.Nodes)-1]; last.To != 65536 || len(x.Nodes) != 4 {
			t.Errorf("%q: %+v", with, last)
		}
		wantLarge(t, text+" ")
		wantLarge(t, text+")")
		wantLarge(t, "?"+text)
		wantLarge(t, text+text)
	}
	wantAt(t, fill("f() f", " ", 65536), 4)
	wantAt(t, fill("f() --", "-", 65534)+"\n)", 65535)
	wantAt(t, fill("x = ", "\n", 65536), 65536)
	wantAt(t, strings.Repeat("(", 65536), 65536)
	wantAt(t, strings.Repeat("{", 65536), 65536)
	wantAt(t, strings.Repeat("n", 65536), 65536)
	wantAt(t, "throw \""+strings.Repeat("n", 65529), 65536)
	wantLarge(t, strings.Repeat("(", 65537))
	wantLarge(t, strings.Repeat("}", 65537))
	wantLarge(t, strings.Repeat("\x00", 70000))
}

// A text that is too large and has a fault has the fault.
func TestP3FaultsOfTextsThatWouldBeTooLarge(t *testing.T) {
	for text, at := range map[string]int{
		strings.Repeat("n", 41) + " = ":                  44,
		strings.Repeat("n", 41):                          41,
		strings.Repeat("break;", 300) + "}":              1800,
		"throw " + strings.Repeat("~", 200) + ")":        206,
		"throw \"" + strings.Repeat("7", 5000) + "\" 7":  5009,
		"throw " + strings.Repeat("7", 50) + ".":         57,
		"let " + strings.Repeat("a,", 300) + "a = b = c": 611,
	} {
		wantAt(t, text, at)
	}
}

func TestP3AnswersAreTheCallersOwn(t *testing.T) {
	text := "let a, b = fn(a, b) { return {a, b, a} }, \"q\""
	first := parsed(t, text)
	kept := copied(first)
	for i := range first.Nodes {
		n := &first.Nodes[i]
		for j := range n.Kids {
			n.Kids[j] = 99
		}
		for j := range n.Names {
			n.Names[j] = "y"
		}
		_ = append(n.Kids, 77)
		_ = append(n.Names, "z")
		n.Kind = 99
	}
	if again := parsed(t, text); !sameTree(again, kept) {
		t.Errorf("%+v, was %+v", again, kept)
	}
	second := parsed(t, text)
	for i := range second.Nodes {
		n := &second.Nodes[i]
		n.Kids = append(n.Kids, 77)
		n.Names = append(n.Names, "z")
	}
	for i, n := range second.Nodes {
		n.Kids, n.Names = n.Kids[:len(n.Kids)-1], n.Names[:len(n.Names)-1]
		if !sameTree(impl.Tree{Nodes: []impl.Node{n}}, impl.Tree{Nodes: kept.Nodes[i : i+1]}) {
			t.Errorf("two lists share memory: %+v, was %+v", n, kept.Nodes[i])
		}
	}
}
