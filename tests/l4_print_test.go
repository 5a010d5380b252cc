package tests

import (
	"slices"
	"strings"
	"testing"

	"loop.example/warp/impl"
)

func nameOf(name string) twig { return tw(impl.Node{Kind: impl.EName, Text: name}) }

func intOf(n int64) twig { return tw(impl.Node{Kind: impl.EInt, Num: n}) }

func floatOf(text string) twig { return tw(impl.Node{Kind: impl.EFlt, Text: text}) }

func stringOf(content string) twig { return tw(impl.Node{Kind: impl.EStr, Text: content}) }

func prefixOf(op int, operand twig) twig { return tw(impl.Node{Kind: impl.EUnary, Op: op}, operand) }

func infixOf(sign string, left, right twig) twig {
	return tw(infixed(sign, "", shape{}, shape{}).node, left, right)
}

func fieldOf(base twig, name string) twig {
	return tw(impl.Node{Kind: impl.EField, Text: name}, base)
}

func indexOf(base, key twig) twig { return kind(impl.EIndex, base, key) }

func callOf(base twig, arguments ...twig) twig {
	return kind(impl.ECall, append([]twig{base}, arguments...)...)
}

func oneOf(x twig) twig { return kind(impl.EOne, x) }

func itemOf(x twig) twig { return kind(impl.NItem, x) }

func pairOf(key, value twig) twig { return kind(impl.NPair, key, value) }

func namedOf(name string, value twig) twig {
	return tw(impl.Node{Kind: impl.NNamed, Text: name}, value)
}

// fnOf is a fn with these parameters, of which the last may be ... .
func fnOf(params string, stats ...twig) twig {
	x := tw(impl.Node{Kind: impl.EFn}, blockOf(stats...))
	x.Names = strings.Fields(params)
	if last := len(x.Names) - 1; last >= 0 && x.Names[last] == "..." {
		x.Names, x.Op = x.Names[:last], 1
	}
	return x
}

func blockOf(stats ...twig) twig { return kind(impl.SBlock, stats...) }

// withNames is a statement of a Kind that makes names known.
func withNames(k int, names string, below ...twig) twig {
	return tw(impl.Node{Kind: k, Names: strings.Fields(names)}, below...)
}

func setOf(targets int, below ...twig) twig {
	return tw(impl.Node{Kind: impl.SSet, Num: int64(targets)}, below...)
}

func doOf(call twig) twig { return kind(impl.SDo, call) }

func throwOf(x twig) twig { return kind(impl.SThrow, x) }

// short twigs that many tests lean on
var (
	stopStat = kind(impl.SBreak)
	nextStat = kind(impl.SNext)
	aName    = nameOf("a")
	bName    = nameOf("b")
	cName    = nameOf("c")
	fName    = nameOf("f")
	tName    = nameOf("t")
	restOf   = kind(impl.ERest)
	fCall    = callOf(fName)
)

// wantPrint fails unless the text of some statements is this one, and comes back as P4 says.
func wantPrint(t *testing.T, want string, stats ...twig) {
	t.Helper()
	x := text(stats...)
	wantTree(t, x, 0, 0)
	wantSameText(t, impl.Print(x), want)
	wantComesBack(t, x)
}

// wantComesBack fails unless Print gives something for a tree that Parse makes that tree of again.
func wantComesBack(t *testing.T, x impl.Tree) {
	t.Helper()
	printed := impl.Print(x)
	if printed == "" && len(x.Nodes) > 1 {
		t.Fatalf("nothing for a tree of %d nodes", len(x.Nodes))
	}
	p := impl.Parse(printed)
	if p.Code != 0 {
		t.Fatalf("Parse(%.300q): code %d at %d", printed, p.Code, p.At)
	}
	wantNodes(t, printed, impl.Bare(p.Tree), impl.Bare(x))
}

// wantExpr fails unless an expression is written like this.
func wantExpr(t *testing.T, want string, x twig) {
	t.Helper()
	wantPrint(t, "throw "+want+"\n", throwOf(x))
}

func TestP10TheEmptyTreeIsTheEmptyText(t *testing.T) {
	wantPrint(t, "")
	placed := text()
	placed.Nodes[0].From, placed.Nodes[0].To, placed.Nodes[0].Line = 3, 9, 2
	wantSameText(t, impl.Print(placed), "")
}

func TestP10PrintOfBlocks(t *testing.T) {
	wantPrint(t, "{}\n", blockOf())
	wantPrint(t, "{}\n{}\n", blockOf(), blockOf())
	wantPrint(t, "{\n\tbreak\n}\n", blockOf(stopStat))
	wantPrint(t, "{\n\tbreak\n\tnext\n}\nbreak\n", blockOf(stopStat, nextStat), stopStat)
	wantPrint(t, "{\n\t{}\n}\n", blockOf(blockOf()))
	wantPrint(t, "{\n\t{}\n\t{\n\t\tbreak\n\t\t{\n\t\t\tnext\n\t\t}\n\t\t{}\n\t}\n\tnext\n}\n{}\n",
		blockOf(blockOf(), blockOf(stopStat, blockOf(nextStat), blockOf()), nextStat), blockOf())
	wantPrint(t, "while a {\n\twhile b {\n\t\tbreak\n\t}\n}\n", kind(impl.SWhile, aName, blockOf(kind(impl.SWhile, bName, blockOf(stopStat)))))
}

func TestP10PrintOfLetAndConst(t *testing.T) {
	wantPrint(t, "let a\n", withNames(impl.SLet, "a"))
	wantPrint(t, "let a, b, c\n", withNames(impl.SLet, "a b c"))
	wantPrint(t, "let a = b\n", withNames(impl.SLet, "a", bName))
	wantPrint(t, "let a, b = c\n", withNames(impl.SLet, "a b", cName))
	wantPrint(t, "let a = b, f(), ...\n", withNames(impl.SLet, "a", bName, fCall, restOf))
	wantPrint(t, "let a, b = 1, nil\nlet c\n", withNames(impl.SLet, "a b", intOf(1), kind(impl.ENil)), withNames(impl.SLet, "c"))
	wantPrint(t, "const a = b\n", withNames(impl.SConst, "a", bName))
	wantPrint(t, "const a = b + c\n", withNames(impl.SConst, "a", infixOf("+", bName, cName)))
}

func TestP10PrintOfSet(t *testing.T) {
	wantPrint(t, "a = b\n", setOf(1, aName, bName))
	wantPrint(t, "a = b, c\n", setOf(1, aName, bName, cName))
	wantPrint(t, "a, b = c\n", setOf(2, aName, bName, cName))
	wantPrint(t, "a, t.b, t[c] = 1, f(), ...\n", setOf(3, aName, fieldOf(tName, "b"), indexOf(tName, cName), intOf(1), fCall, restOf))
	wantPrint(t, "f().b, (f())[a], (5).c = {}\n", setOf(3, fieldOf(fCall, "b"), indexOf(oneOf(fCall), aName), fieldOf(intOf(5), "c"), kind(impl.ETable)))
	wantPrint(t, "a, b = b, a\nc = a\n", setOf(2, aName, bName, bName, aName), setOf(1, cName, aName))
}

func TestP10PrintOfCalls(t *testing.T) {
	wantPrint(t, "f()\n", doOf(fCall))
	wantPrint(t, "f(a)\n", doOf(callOf(fName, aName)))
	wantPrint(t, "f(a, b, ...)\n", doOf(callOf(fName, aName, bName, restOf)))
	wantPrint(t, "f()()\n", doOf(callOf(fCall)))
	wantPrint(t, "f()\n(f())()\n(fn() {})()\n", doOf(fCall), doOf(callOf(oneOf(fCall))), doOf(callOf(fnOf(""))))
	wantPrint(t, "t.f(a)[b](c)\n", doOf(callOf(indexOf(callOf(fieldOf(tName, "f"), aName), bName), cName)))
	wantPrint(t, "defer f()\n", kind(impl.SDefer, fCall))
	wantPrint(t, "defer t.f(a, b)\n", kind(impl.SDefer, callOf(fieldOf(tName, "f"), aName, bName)))
	wantPrint(t, "defer (fn() {\n\tf()\n})()\n", kind(impl.SDefer, callOf(fnOf("", doOf(fCall)))))
}

func TestP10PrintOfIf(t *testing.T) {
	iff := func(below ...twig) twig { return kind(impl.SIf, below...) }
	stop := blockOf(stopStat)
	wantPrint(t, "if a {}\n", iff(aName, blockOf()))
	wantPrint(t, "if a {\n\tbreak\n}\n", iff(aName, stop))
	wantPrint(t, "if a {} else {}\n", iff(aName, blockOf(), blockOf()))
	wantPrint(t, "if a {\n\tbreak\n} else {\n\tnext\n}\n", iff(aName, stop, blockOf(nextStat)))
	wantPrint(t, "if a {} elif b {}\n", iff(aName, blockOf(), iff(bName, blockOf())))
	wantPrint(t, "if a {\n\tbreak\n} elif b {} elif c {\n\tbreak\n}\n", iff(aName, stop, iff(bName, blockOf(), iff(cName, stop))))
	wantPrint(t, "if a {} elif b {\n\tbreak\n} elif c {} else {\n\tnext\n}\nbreak\n",
		iff(aName, blockOf(), iff(bName, stop, iff(cName, blockOf(), blockOf(nextStat)))), stopStat)
	// an if within the block of an else is no elif
	wantPrint(t, "if a {} else {\n\tif b {} else {}\n}\n", iff(aName, blockOf(), blockOf(iff(bName, blockOf(), blockOf()))))
	wantPrint(t, "if a {\n\tif b {}\n} else {}\n", iff(aName, blockOf(iff(bName, blockOf())), blockOf()))
	wantPrint(t, "{\n\tif a {\n\t\tbreak\n\t} elif b {\n\t\tbreak\n\t} else {\n\t\tbreak\n\t}\n}\n", blockOf(iff(aName, stop, iff(bName, stop, stop))))
	wantPrint(t, "if {} {}\n", iff(kind(impl.ETable), blockOf()))
}

func TestP10PrintOfLoops(t *testing.T) {
	stop := blockOf(stopStat)
	wantPrint(t, "while a {}\n", kind(impl.SWhile, aName, blockOf()))
	wantPrint(t, "while f() {\n\tbreak\n}\n", kind(impl.SWhile, fCall, stop))
	wantPrint(t, "for a = 1, 2 {}\n", withNames(impl.SFor, "a", intOf(1), intOf(2), blockOf()))
	wantPrint(t, "for a = 1, b, -1 {\n\tnext\n}\n", withNames(impl.SFor, "a", intOf(1), bName, prefixOf(impl.OpNeg, intOf(1)), blockOf(nextStat)))
	wantPrint(t, "for a in t {}\n", withNames(impl.SEach, "a", tName, blockOf()))
	wantPrint(t, "for a, b, c in f() {\n\tbreak\n\tnext\n}\n", withNames(impl.SEach, "a b c", fCall, blockOf(stopStat, nextStat)))
	wantPrint(t, "for a in {} {}\n", withNames(impl.SEach, "a", kind(impl.ETable), blockOf()))
	wantPrint(t, "break\nnext\n", stopStat, nextStat)
}

func TestP10PrintOfReturnTryAndThrow(t *testing.T) {
	wantPrint(t, "return\n", kind(impl.SReturn))
	wantPrint(t, "return a\n", kind(impl.SReturn, aName))
	wantPrint(t, "return a, f(), (...)\n", kind(impl.SReturn, aName, fCall, oneOf(restOf)))
	wantPrint(t, "return\nf()\n{\n\treturn\n}\n", kind(impl.SReturn), doOf(fCall), blockOf(kind(impl.SReturn)))
	wantPrint(t, "try {} catch a {}\n", withNames(impl.STry, "a", blockOf(), blockOf()))
	wantPrint(t, "try {\n\tf()\n} catch a, b {\n\tthrow a\n}\n", withNames(impl.STry, "a b", blockOf(doOf(fCall)), blockOf(throwOf(aName))))
	wantPrint(t, "throw a\n", throwOf(aName))
	wantPrint(t, "throw {}\n", throwOf(kind(impl.ETable)))
}

func TestP10PrintOfFns(t *testing.T) {
	fnStat := func(name string, fn twig) twig { return withNames(impl.SFn, name, fn) }
	wantPrint(t, "fn a() {}\n", fnStat("a", fnOf("")))
	wantPrint(t, "fn a(b) {\n\treturn b\n}\n", fnStat("a", fnOf("b", kind(impl.SReturn, bName))))
	wantPrint(t, "fn a(b, c, ...) {}\n", fnStat("a", fnOf("b c ...")))
	wantPrint(t, "fn a(...) {\n\treturn ...\n}\n", fnStat("a", fnOf("...", kind(impl.SReturn, restOf))))
	wantPrint(t, "fn a() {\n\tfn b() {\n\t\tfn c() {}\n\t}\n\tfn c() {}\n}\nfn b() {}\n",
		fnStat("a", fnOf("", fnStat("b", fnOf("", fnStat("c", fnOf("")))), fnStat("c", fnOf("")))), fnStat("b", fnOf("")))
	wantExpr(t, "fn() {}", fnOf(""))
	wantExpr(t, "fn(a, b) {}", fnOf("a b"))
	wantExpr(t, "fn(a, ...) {}", fnOf("a ..."))
	wantExpr(t, "fn(...) {\n\tbreak\n}", fnOf("...", stopStat))
	// a fn within an expression counts its tabs from the statement in which it stands
	inner := fnOf("", stopStat)
	wantPrint(t, "{\n\ta = f(1, fn() {\n\t\tbreak\n\t}, fn() {\n\t\tbreak\n\t})\n}\n", blockOf(setOf(1, aName, callOf(fName, intOf(1), inner, inner))))
	wantExpr(t, "{fn() {\n\tbreak\n}, [fn() {\n\tbreak\n}] = 1, .a = fn() {\n\tbreak\n}}", kind(impl.ETable, itemOf(inner), pairOf(inner, intOf(1)), namedOf("a", inner)))
	wantExpr(t, "f({f(fn() {\n\tf(fn() {\n\t\tbreak\n\t})\n\tbreak\n})})", callOf(fName, kind(impl.ETable, itemOf(callOf(fName, fnOf("", doOf(callOf(fName, inner)), stopStat))))))
	wantExpr(t, "fn() {\n\treturn fn() {\n\t\treturn fn() {}\n\t}\n} or a", infixOf("or", fnOf("", kind(impl.SReturn, fnOf("", kind(impl.SReturn, fnOf(""))))), aName))
	wantExpr(t, "-fn() {\n\tbreak\n}", prefixOf(impl.OpNeg, inner))
	wantPrint(t, "if fn() {\n\tbreak\n} {\n\tnext\n} elif fn() {\n\tbreak\n} {\n\tnext\n}\n",
		kind(impl.SIf, inner, blockOf(nextStat), kind(impl.SIf, inner, blockOf(nextStat))))
	wantPrint(t, "(fn(a, ...) {\n\treturn a, ...\n})(1, fn() {\n\tbreak\n})\n", doOf(callOf(fnOf("a ...", kind(impl.SReturn, aName, restOf)), intOf(1), inner)))
	wantPrint(t, "let a = fn() {\n\tlet b = fn() {\n\t\tbreak\n\t}, fn() {}\n\tb()\n}\na()\n",
		withNames(impl.SLet, "a", fnOf("", withNames(impl.SLet, "b", inner, fnOf("")), doOf(callOf(bName)))), doOf(callOf(aName)))
}

func TestP10PrintOfSmallExpressions(t *testing.T) {
	wantExpr(t, "nil", kind(impl.ENil))
	wantExpr(t, "true", kind(impl.ETrue))
	wantExpr(t, "false", kind(impl.EFalse))
	wantExpr(t, "...", restOf)
	wantExpr(t, "_Name9", nameOf("_Name9"))
	wantExpr(t, strings.Repeat("n", 40), nameOf(strings.Repeat("n", 40)))
	wantExpr(t, "0", intOf(0))
	wantExpr(t, "10", intOf(10))
	wantExpr(t, "9223372036854775807", intOf(1<<63-1))
	wantExpr(t, "0xffffffffffffffff", intOf(-1))
	wantExpr(t, "0x8000000000000000", intOf(-1<<63))
	wantExpr(t, "0xfffffffffffffff6", intOf(-10))
	wantExpr(t, "-1", prefixOf(impl.OpNeg, intOf(1)))
	wantExpr(t, "-0xffffffffffffffff", prefixOf(impl.OpNeg, intOf(-1)))
	wantExpr(t, "a - 0xffffffffffffffff", infixOf("-", aName, intOf(-1)))
	for _, float := range []string{"0.0", "1.50e1", "0e-0", "1e+05", "9223372036854775808", "1." + strings.Repeat("7", 38)} {
		wantExpr(t, float, floatOf(float))
	}
}

func TestP10PrintOfStrings(t *testing.T) {
	wantExpr(t, `""`, stringOf(""))
	wantExpr(t, `"a b"`, stringOf("a b"))
	wantExpr(t, `"\n\t\"\\"`, stringOf("\n\t\"\\"))
	wantExpr(t, `"\x00\x07\x0d\x1f !~\x7f\x80\xff"`, stringOf("\x00\x07\r\x1f !~\x7f\x80\xff"))
	wantExpr(t, `"--' (`+"`"+`{}"`, stringOf("--' (`{}"))
	wantExpr(t, `"\\n\\x41"`, stringOf("\\n\\x41"))
	for c := range 256 {
		content := string([]byte{'<', byte(c), '>'})
		wantExpr(t, impl.Quote(content), stringOf(content))
	}
	wantExpr(t, `"`+strings.Repeat("s", 4000)+`"`, stringOf(strings.Repeat("s", 4000)))
	wantExpr(t, `"`+strings.Repeat(`\xff`, 4000)+`"`, stringOf(strings.Repeat("\xff", 4000)))
}

func TestP10PrintOfSuffixesAndTables(t *testing.T) {
	wantExpr(t, "a[b]", indexOf(aName, bName))
	wantExpr(t, "a.b", fieldOf(aName, "b"))
	wantExpr(t, "f(a, b)", callOf(fName, aName, bName))
	wantExpr(t, "a.b.c[1][f()].t()()", callOf(callOf(fieldOf(indexOf(indexOf(fieldOf(fieldOf(aName, "b"), "c"), intOf(1)), fCall), "t"))))
	wantExpr(t, "{}", kind(impl.ETable))
	wantExpr(t, "{a}", kind(impl.ETable, itemOf(aName)))
	wantExpr(t, "{[a] = b}", kind(impl.ETable, pairOf(aName, bName)))
	wantExpr(t, "{.a = b}", kind(impl.ETable, namedOf("a", bName)))
	wantExpr(t, "{a, [b] = c, .t = 1, ..., f()}", kind(impl.ETable, itemOf(aName), pairOf(bName, cName), namedOf("t", intOf(1)), itemOf(restOf), itemOf(fCall)))
	wantExpr(t, "{{}, [{}] = {}, .a = {{}}}", kind(impl.ETable, itemOf(kind(impl.ETable)), pairOf(kind(impl.ETable), kind(impl.ETable)),
		namedOf("a", kind(impl.ETable, itemOf(kind(impl.ETable))))))
	wantExpr(t, "{[{[a] = b}] = c, a + b, .t = a or b}", kind(impl.ETable, pairOf(kind(impl.ETable, pairOf(aName, bName)), cName),
		itemOf(infixOf("+", aName, bName)), namedOf("t", infixOf("or", aName, bName))))
}

// parenthesized is a text with parentheses, or without.
func parenthesized(s string, parentheses bool) string {
	if parentheses {
		return "(" + s + ")"
	}
	return s
}

func TestP10ParenthesesOfEachInfixBesideEach(t *testing.T) {
	for _, outer := range allInfixes() {
		wantExpr(t, "a "+outer+" b", infixOf(outer, aName, bName))
		for _, inner := range allInfixes() {
			p, q := powerOf(outer), powerOf(inner)
			x := infixOf(inner, aName, bName)
			left, right := q < p, q <= p
			if outer == ".." {
				left, right = q <= p, q < p
			}
			of := "a " + inner + " b"
			wantExpr(t, parenthesized(of, left)+" "+outer+" c", infixOf(outer, x, cName))
			wantExpr(t, "c "+outer+" "+parenthesized(of, right), infixOf(outer, cName, x))
			wantExpr(t, parenthesized(of, left)+" "+outer+" "+parenthesized(of, right), infixOf(outer, x, x))
		}
	}
}

func TestP10ParenthesesOfInfixesByEye(t *testing.T) {
	wantExpr(t, "a + b + c", infixOf("+", infixOf("+", aName, bName), cName))
	wantExpr(t, "a + (b + c)", infixOf("+", aName, infixOf("+", bName, cName)))
	wantExpr(t, "a + b - c", infixOf("-", infixOf("+", aName, bName), cName))
	wantExpr(t, "a + (b - c)", infixOf("+", aName, infixOf("-", bName, cName)))
	wantExpr(t, "a .. b .. c", infixOf("..", aName, infixOf("..", bName, cName)))
	wantExpr(t, "(a .. b) .. c", infixOf("..", infixOf("..", aName, bName), cName))
	wantExpr(t, "a + b .. c", infixOf("..", infixOf("+", aName, bName), cName))
	wantExpr(t, "a + (b .. c)", infixOf("+", aName, infixOf("..", bName, cName)))
	wantExpr(t, "a .. b == c", infixOf("==", infixOf("..", aName, bName), cName))
	wantExpr(t, "(a == b) .. c", infixOf("..", infixOf("==", aName, bName), cName))
	wantExpr(t, "a .. (b == c)", infixOf("..", aName, infixOf("==", bName, cName)))
	wantExpr(t, "a < b < c", infixOf("<", infixOf("<", aName, bName), cName))
	wantExpr(t, "a < (b ~= c)", infixOf("<", aName, infixOf("~=", bName, cName)))
	wantExpr(t, "a or b and c", infixOf("or", aName, infixOf("and", bName, cName)))
	wantExpr(t, "(a or b) and c", infixOf("and", infixOf("or", aName, bName), cName))
	wantExpr(t, "a and (b and c)", infixOf("and", aName, infixOf("and", bName, cName)))
	wantExpr(t, "a or b or c", infixOf("or", infixOf("or", aName, bName), cName))
	wantExpr(t, "a | b ~ c & a << b + c * a", infixOf("|", aName, infixOf("~", bName, infixOf("&", cName, infixOf("<<", aName,
		infixOf("+", bName, infixOf("*", cName, aName)))))))
	wantExpr(t, "((((a | b) ~ c) & a) << b) * c", infixOf("*", infixOf("<<", infixOf("&", infixOf("~", infixOf("|", aName, bName), cName), aName), bName), cName))
	wantExpr(t, "(a + b) * (b - c)", infixOf("*", infixOf("+", aName, bName), infixOf("-", bName, cName)))
	wantExpr(t, "a % b // c / a", infixOf("/", infixOf("//", infixOf("%", aName, bName), cName), aName))
	wantExpr(t, "(a .. b .. c) .. (a .. b) .. c", infixOf("..", infixOf("..", aName, infixOf("..", bName, cName)),
		infixOf("..", infixOf("..", aName, bName), cName)))
}

// prefixSigns holds the prefixes as they are written.
var prefixSigns = map[int]string{impl.OpNeg: "-", impl.OpFlip: "~", impl.OpNot: "not ", impl.OpLen: "#"}

func TestP10ParenthesesOfPrefixes(t *testing.T) {
	for op, sign := range prefixSigns {
		wantExpr(t, sign+"a", prefixOf(op, aName))
		for _, infix := range allInfixes() {
			x := infixOf(infix, aName, bName)
			wantExpr(t, sign+"(a "+infix+" b)", prefixOf(op, x))
			wantExpr(t, sign+"a "+infix+" "+sign+"b", infixOf(infix, prefixOf(op, aName), prefixOf(op, bName)))
			wantExpr(t, sign+"(a "+infix+" b) "+infix+" c", infixOf(infix, prefixOf(op, x), cName))
			wantExpr(t, "c "+infix+" "+sign+"(a "+infix+" b)", infixOf(infix, cName, prefixOf(op, x)))
		}
		for other, inner := range prefixSigns {
			between := ""
			if op == impl.OpNeg && other == impl.OpNeg {
				between = " "
			}
			wantExpr(t, sign+between+inner+"a", prefixOf(op, prefixOf(other, aName)))
			wantExpr(t, sign+between+inner+"(a + b)", prefixOf(op, prefixOf(other, infixOf("+", aName, bName))))
			wantExpr(t, "a - "+sign+between+inner+"b", infixOf("-", aName, prefixOf(op, prefixOf(other, bName))))
		}
	}
	minus := func(x twig) twig { return prefixOf(impl.OpNeg, x) }
	wantExpr(t, "- - -a", minus(minus(minus(aName))))
	wantExpr(t, "a - - -b", infixOf("-", aName, minus(minus(bName))))
	wantExpr(t, "-(-a - -b)", minus(infixOf("-", minus(aName), minus(bName))))
	wantExpr(t, "-~-a", minus(prefixOf(impl.OpFlip, minus(aName))))
	wantExpr(t, "- -a.b", minus(minus(fieldOf(aName, "b"))))
	wantExpr(t, "-(-a).b", minus(fieldOf(minus(aName), "b")))
	wantExpr(t, "-\"-\"", minus(stringOf("-")))
	wantExpr(t, "-{- -a}", minus(kind(impl.ETable, itemOf(minus(minus(aName))))))
	wantExpr(t, "a ~ ~b", infixOf("~", aName, prefixOf(impl.OpFlip, bName)))
}

// eachExpr is a twig of each Kind of expression and each form of it, with its text.
func eachExpr() map[string]twig {
	all := map[string]twig{
		"nil": kind(impl.ENil), "true": kind(impl.ETrue), "false": kind(impl.EFalse), "...": restOf, "5": intOf(5), "0x8000000000000000": intOf(-1 << 63),
		"1.5": floatOf("1.5"), "\"s\"": stringOf("s"), "a": aName, "a[b]": indexOf(aName, bName), "a.b": fieldOf(aName, "b"), "f(a)": callOf(fName, aName),
		"{}": kind(impl.ETable), "{a, [b] = c}": kind(impl.ETable, itemOf(aName), pairOf(bName, cName)), "fn() {}": fnOf(""), "fn(a) {\n\tbreak\n}": fnOf("a", stopStat),
		"(f())": oneOf(fCall), "(...)": oneOf(restOf),
	}
	for _, sign := range allInfixes() {
		all["a "+sign+" b"] = infixOf(sign, aName, bName)
	}
	for op, sign := range prefixSigns {
		all[sign+"a"] = prefixOf(op, aName)
	}
	return all
}

func TestP10ParenthesesOfWhatASuffixFollows(t *testing.T) {
	bare := []int{impl.EName, impl.EIndex, impl.EField, impl.ECall, impl.EOne}
	for of, x := range eachExpr() {
		if x.Kind == impl.ERest {
			continue
		}
		base := parenthesized(of, !slices.Contains(bare, x.Kind))
		wantExpr(t, base+"[c]", indexOf(x, cName))
		wantExpr(t, base+".c", fieldOf(x, "c"))
		wantExpr(t, base+"()", callOf(x))
		wantExpr(t, base+"(c, ...)", callOf(x, cName, restOf))
		wantExpr(t, base+".c[1]()", callOf(indexOf(fieldOf(x, "c"), intOf(1))))
		wantExpr(t, "-"+base+".c + "+base+"()", infixOf("+", prefixOf(impl.OpNeg, fieldOf(x, "c")), callOf(x)))
		wantPrint(t, base+"()\n", doOf(callOf(x)))
		wantPrint(t, "defer "+base+"()\n", kind(impl.SDefer, callOf(x)))
		wantPrint(t, base+"[c], "+base+".c = 1\n", setOf(2, indexOf(x, cName), fieldOf(x, "c"), intOf(1)))
	}
}

func TestP10ParenthesesOfEOne(t *testing.T) {
	for of, x := range map[string]twig{"f()": fCall, "...": restOf, "t.f(a)": callOf(fieldOf(tName, "f"), aName), "(f())()": callOf(oneOf(fCall))} {
		one := oneOf(x)
		wantExpr(t, "("+of+")", one)
		wantExpr(t, "("+of+").b", fieldOf(one, "b"))
		wantExpr(t, "("+of+")[a]", indexOf(one, aName))
		wantExpr(t, "("+of+")(("+of+"))", callOf(one, one))
		wantExpr(t, "-("+of+")", prefixOf(impl.OpNeg, one))
		for _, sign := range allInfixes() {
			wantExpr(t, "("+of+") "+sign+" ("+of+")", infixOf(sign, one, one))
			wantExpr(t, of+" "+sign+" "+of, infixOf(sign, x, x))
		}
		wantPrint(t, "return ("+of+"), "+of+"\n", kind(impl.SReturn, one, x))
	}
}

// Where an expression is no operand and nothing follows it, no parentheses stand around it, whatever it is.
func TestP10NoParenthesesElsewhere(t *testing.T) {
	none := blockOf()
	for of, x := range eachExpr() {
		for _, c := range []struct {
			frame string
			stat  twig
		}{
			{"let a = *, *", withNames(impl.SLet, "a", x, x)},
			{"const a = *", withNames(impl.SConst, "a", x)},
			{"a = *, *", setOf(1, aName, x, x)},
			{"if * {} elif * {} else {}", kind(impl.SIf, x, none, kind(impl.SIf, x, none, none))},
			{"while * {}", kind(impl.SWhile, x, none)},
			{"for a = *, *, * {}", withNames(impl.SFor, "a", x, x, x, none)},
			{"for a in * {}", withNames(impl.SEach, "a", x, none)},
			{"return *, *", kind(impl.SReturn, x, x)},
			{"throw *", throwOf(x)},
			{"f(*, *)", doOf(callOf(fName, x, x))},
			{"defer f(*)", kind(impl.SDefer, callOf(fName, x))},
			{"t[*] = 1", setOf(1, indexOf(tName, x), intOf(1))},
			{"throw t[*]", throwOf(indexOf(tName, x))},
			{"throw {*, [*] = *, .a = *}", throwOf(kind(impl.ETable, itemOf(x), pairOf(x, x), namedOf("a", x)))},
		} {
			wantPrint(t, strings.ReplaceAll(c.frame, "*", of)+"\n", c.stat)
		}
		if signOf(x) != "" {
			continue
		}
		for _, sign := range allInfixes() {
			wantExpr(t, of+" "+sign+" "+of, infixOf(sign, x, x))
		}
		for op, sign := range prefixSigns {
			if sign != "-" || of[0] != '-' {
				wantExpr(t, sign+of, prefixOf(op, x))
			}
		}
	}
}

// wantNoneToSpare fails when a pair of parentheses could be left out of a text: all that Print writes mean something.
func wantNoneToSpare(t *testing.T, text string) {
	t.Helper()
	want := impl.Bare(parsed(t, text))
	var open []int
	for _, token := range impl.Scan(text).Tokens {
		switch token.Kind {
		case impl.TOpen:
			open = append(open, token.From)
		case impl.TClose:
			from := open[len(open)-1]
			open = open[:len(open)-1]
			without := text[:from] + " " + text[from+1:token.From] + " " + text[token.To:]
			if p := impl.Parse(without); p.Code == 0 && sameTree(impl.Bare(p.Tree), want) {
				t.Fatalf("%q: the parentheses at %d and %d could be left out", text, from, token.From)
			}
		}
	}
}

func TestP10NoParenthesesToSpare(t *testing.T) {
	t.Parallel()
	var d dice = 22
	pairs := 0
	for range 600 {
		x := throwOf(d.grown('e', 2+d.roll(4)))
		d.vary(&x)
		printed := impl.Print(text(x))
		if len(printed) < 1000 {
			pairs += strings.Count(printed, "(")
			wantNoneToSpare(t, printed)
		}
	}
	if pairs < 500 {
		t.Errorf("only %d pairs", pairs)
	}
}

// Places are no part of what is printed.
func TestP10PrintLooksAtNoPlaces(t *testing.T) {
	var d dice = 23
	for range 300 {
		x := text(d.grown('s', 3), d.grown('s', 4))
		want := impl.Print(x)
		for i := range x.Nodes {
			n := &x.Nodes[i]
			n.From, n.Line = d.roll(9), d.roll(9)
			n.To = n.From + d.roll(9)
		}
		wantSameText(t, impl.Print(x), want)
	}
}
