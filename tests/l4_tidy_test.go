package tests

import (
	"slices"
	"strings"
	"testing"

	"loop.example/warp/impl"
)

func TestP4EachRowComesBack(t *testing.T) {
	for _, r := range treeRows {
		for _, kids := range r.good {
			x, _ := held(r.with(kids))
			wantComesBack(t, x)
		}
	}
	for _, k := range []int{impl.SLet, impl.SEach, impl.EFn} {
		x := sample(k)
		x.Names = manyNames(200)
		list, _ := held(x)
		wantComesBack(t, list)
	}
	x := sample(impl.EFn)
	x.Names, x.Op = manyNames(200), 1
	list, _ := held(x)
	wantComesBack(t, list)
}

func TestP4EachFormComesBack(t *testing.T) {
	for _, f := range allForms() {
		wantComesBack(t, treeOf(t, f.text, f.stats))
	}
}

// Each Kind that may stand for a kid stands there once.
func TestP4EachKidComesBack(t *testing.T) {
	for _, r := range treeRows {
		for _, kids := range r.good {
			if len(kids) > 10 {
				continue
			}
			for i := range len(kids) {
				for _, k := range standing[kids[i]] {
					x := r.with(kids)
					x.below[i] = sample(k)
					list, _ := held(x)
					wantComesBack(t, list)
				}
			}
		}
	}
}

func TestP4TreesOfChanceComeBack(t *testing.T) {
	t.Parallel()
	var d dice = 26
	kinds := map[int]int{}
	for range 2000 {
		root := kind(impl.SBlock)
		for range 1 + d.roll(4) {
			x := d.grown('s', d.roll(7))
			d.vary(&x)
			root.below = append(root.below, x)
		}
		tree := listed(root)
		if impl.TreeOk(tree).Code != 0 || len(pennedText(root)) > 65536 {
			continue
		}
		wantComesBack(t, tree)
		for _, n := range tree.Nodes {
			kinds[n.Kind]++
		}
	}
	for _, k := range everyKind {
		if kinds[k] < 50 {
			t.Errorf("Kind %d came %d times", k, kinds[k])
		}
	}
}

// deepest is a twig put into a frame again and again, until the tree has just the depth that it may have.
func deepest(t *testing.T, core twig, frame func(twig) twig) impl.Tree {
	t.Helper()
	best := impl.Tree{}
	for x := core; ; x = frame(x) {
		list := x
		if x.Kind >= impl.ENil {
			list = throwOf(x)
		}
		tree := text(list)
		if impl.TreeOk(tree).Code != 0 {
			return best
		}
		best = tree
	}
}

func TestP4DeepTreesComeBack(t *testing.T) {
	t.Parallel()
	frames := map[string]func(twig) twig{
		"index":   func(x twig) twig { return indexOf(x, aName) },
		"key":     func(x twig) twig { return indexOf(aName, x) },
		"field":   func(x twig) twig { return fieldOf(x, "b") },
		"call":    func(x twig) twig { return callOf(x) },
		"values":  func(x twig) twig { return callOf(aName, aName, x) },
		"one":     func(x twig) twig { return oneOf(callOf(x)) },
		"item":    func(x twig) twig { return kind(impl.ETable, itemOf(x)) },
		"pair":    func(x twig) twig { return kind(impl.ETable, pairOf(x, aName), pairOf(aName, aName)) },
		"named":   func(x twig) twig { return kind(impl.ETable, namedOf("a", x)) },
		"fn":      func(x twig) twig { return fnOf("a ...", throwOf(x), kind(impl.SReturn, aName)) },
		"fn base": func(x twig) twig { return callOf(fnOf("", throwOf(x))) },
		"while":   func(x twig) twig { return fnOf("", kind(impl.SWhile, x, blockOf(stopStat))) },
	}
	for op, sign := range prefixSigns {
		frames[sign] = func(x twig) twig { return prefixOf(op, x) }
		frames[sign+"in infixes"] = func(x twig) twig { return infixOf("-", prefixOf(op, infixOf("-", aName, x)), bName) }
	}
	for _, sign := range allInfixes() {
		frames[sign+" left"] = func(x twig) twig { return infixOf(sign, x, aName) }
		frames[sign+" right"] = func(x twig) twig { return infixOf(sign, aName, x) }
	}
	for name, frame := range frames {
		tree := deepest(t, bName, frame)
		if len(tree.Nodes) < 90 {
			t.Errorf("%s: only %d nodes", name, len(tree.Nodes))
		}
		wantComesBack(t, tree)
	}
	for name, frame := range map[string]func(twig) twig{
		"blocks": func(x twig) twig { return blockOf(x) },
		"rows":   func(x twig) twig { return blockOf(stopStat, x, blockOf(), nextStat) },
		"if":     func(x twig) twig { return kind(impl.SIf, aName, blockOf(x)) },
		"else":   func(x twig) twig { return kind(impl.SIf, aName, blockOf(), blockOf(x)) },
		"fns":    func(x twig) twig { return withNames(impl.SFn, "f", fnOf("a", x)) },
		"try":    func(x twig) twig { return withNames(impl.STry, "a b", blockOf(stopStat), blockOf(x, nextStat)) },
		"for":    func(x twig) twig { return withNames(impl.SFor, "a", aName, bName, cName, blockOf(x)) },
		"each":   func(x twig) twig { return withNames(impl.SEach, "a b", aName, blockOf(x)) },
	} {
		tree := deepest(t, blockOf(), frame)
		if len(tree.Nodes) < 90 {
			t.Errorf("%s: only %d nodes", name, len(tree.Nodes))
		}
		wantComesBack(t, tree)
	}
	elifs := deepest(t, kind(impl.SIf, aName, blockOf(stopStat), blockOf()), func(x twig) twig { return kind(impl.SIf, bName, blockOf(nextStat), x) })
	wantComesBack(t, elifs)
	if got := impl.Print(elifs); strings.Count(got, "elif") != 97 || strings.Contains(got, "\t\t") {
		t.Errorf("%q", got)
	}
}

func TestP4BroadTreesComeBack(t *testing.T) {
	wantComesBack(t, broad(2999))
	wantComesBack(t, broad(3000))
	names := kind(impl.SBlock)
	for range 14 {
		names.below = append(names.below, withNames(impl.SLet, "a", slices.Repeat([]twig{aName}, 200)...))
	}
	names.below = append(names.below, slices.Repeat([]twig{stopStat}, 3000-len(listed(names).Nodes))...)
	tree := listed(names)
	if len(tree.Nodes) != 3000 {
		t.Error(len(tree.Nodes))
	}
	wantComesBack(t, tree)
}

// wantTidied fails unless P5 holds for a well-formed text whose one form has room.
func wantTidied(t *testing.T, text string) string {
	t.Helper()
	p := impl.Parse(text)
	if p.Code != 0 {
		t.Fatalf("Parse(%.200q): code %d at %d", text, p.Code, p.At)
	}
	tidied := impl.Tidied(text)
	if tidied == "" && len(p.Tree.Nodes) > 1 {
		t.Fatalf("nothing for %.200q", text)
	}
	wantSameText(t, impl.Tidied(tidied), tidied)
	again := impl.Parse(tidied)
	if again.Code != 0 {
		t.Fatalf("Parse(%.200q): code %d at %d", tidied, again.Code, again.At)
	}
	wantNodes(t, tidied, impl.Bare(again.Tree), impl.Bare(p.Tree))
	return tidied
}

func TestP5EachForm(t *testing.T) {
	for _, f := range allForms() {
		root := kind(impl.SBlock)
		for _, s := range f.stats {
			root.below = append(root.below, s.twig(t, f.text, 0, len(f.text)))
		}
		wantSameText(t, wantTidied(t, f.text), pennedText(root))
	}
}

func TestP5OtherBlanksRemarksAndSeps(t *testing.T) {
	t.Parallel()
	for _, text := range p7Texts() {
		want := wantTidied(t, text)
		for _, g := range gapsOf(newReader(), text) {
			for _, fill := range g.fill {
				wantSameText(t, wantTidied(t, text[:g.from]+fill+text[g.from:]), want)
			}
		}
	}
}

func TestP5ByEye(t *testing.T) {
	for text, want := range map[string]string{
		"":                              "",
		" \t\r\n;;\n-- r":               "",
		"{;}":                           "{}\n",
		"{ -- r\n}":                     "{}\n",
		"break;;next":                   "break\nnext\n",
		"\n\n\tbreak -- r\n--\nnext ;":  "break\nnext\n",
		"let a,b=c":                     "let a, b = c\n",
		"let\na,\nb=\n(c)":              "let a, b = c\n",
		"let a\n,b=c":                   "",
		"x=((a))":                       "x = a\n",
		"x=((f()))":                     "x = (f())\n",
		"x=(((...)))":                   "x = (...)\n",
		"x=(a*b)+(c)":                   "x = a * b + c\n",
		"x=a*(b+c)":                     "x = a * (b + c)\n",
		"x=((a..b)..c)..(d..e)":         "x = ((a .. b) .. c) .. d .. e\n",
		"x=-(-(a))":                     "x = - -a\n",
		"x=-(-1)^0":                     "",
		"x=- -0x1":                      "x = - -1\n",
		"x=0x8000000000000000":          "x = 0x8000000000000000\n",
		"x=0x7fffffffffffffff":          "x = 9223372036854775807\n",
		"x=0x00":                        "x = 0\n",
		"x=\"\\x41\\x0a\\x7f\t\"":       "x = \"A\\n\\x7f\\t\"\n",
		"x={1,2,}":                      "x = {1, 2}\n",
		"x={\n[1]=2\n,\n.a=3\n}":        "x = {[1] = 2, .a = 3}\n",
		"f\n(a\n,b)":                    "f(a, b)\n",
		"(f)(1)":                        "f(1)\n",
		"(a.b)[1]()":                    "a.b[1]()\n",
		"((f()))()":                     "(f())()\n",
		"(f)()(g)()":                    "f()(g)()\n",
		"f()\n(g)()":                    "f()\ng()\n",
		"(\"s\").n()":                   "(\"s\").n()\n",
		"(-a).b=(-c)":                   "(-a).b = -c\n",
		"x=fn(){return}":                "x = fn() {\n\treturn\n}\n",
		"x=(fn(){})":                    "x = fn() {}\n",
		"if(a){}":                       "if a {}\n",
		"if a{b()}else{if c{}}":         "if a {\n\tb()\n} else {\n\tif c {}\n}\n",
		"if not(a)==b{}":                "if not a == b {}\n",
		"if not(a==b){}":                "if not (a == b) {}\n",
		"while a{b();{c()}}":            "while a {\n\tb()\n\t{\n\t\tc()\n\t}\n}\n",
		"try{f()}catch\ne{}":            "try {\n\tf()\n} catch e {}\n",
		"defer(f)()":                    "defer f()\n",
		"return{},(f()),f()":            "return {}, (f()), f()\n",
		"f(fn(){g(fn(){h()})})":         "f(fn() {\n\tg(fn() {\n\t\th()\n\t})\n})\n",
		"fn f(...){return(...),...}":    "fn f(...) {\n\treturn (...), ...\n}\n",
		"{{{}}}":                        "{\n\t{\n\t\t{}\n\t}\n}\n",
		"x.y,z[1]=a or(b and c),a<(b)":  "x.y, z[1] = a or b and c, a < b\n",
		"x = (a or b) and c | (d .. e)": "x = (a or b) and c | (d .. e)\n",
	} {
		if got := impl.Tidied(text); got != want {
			t.Errorf("Tidied(%q): %q, want %q", text, got, want)
		}
		if impl.Parse(text).Code == 0 {
			wantTidied(t, text)
		}
	}
}

func TestP5TextsOfChance(t *testing.T) {
	t.Parallel()
	var d dice = 27
	for range 600 {
		text, tree := d.inscribed()
		if len(text) > impl.MaxText || impl.TreeOk(tree).Code != 0 || len(impl.Print(tree)) == 0 {
			continue
		}
		wantSameText(t, wantTidied(t, text), impl.Print(tree))
	}
}

func wantUntidied(t *testing.T, text string) {
	t.Helper()
	if got := impl.Tidied(text); got != "" {
		t.Fatalf("Tidied(%.200q): %.200q, want nothing", text, got)
	}
}

func TestP5NothingForTextsWithoutATree(t *testing.T) {
	for _, text := range []string{
		"x", "f() f()", "x = ", "x = 1 2", "}", "{", "(", "x = \"", "x = 1e", "?", "\x00", "if a {}\nelse {}", "break break", "x = {}.y", "return\n1",
		"f()\n.g()", "let", "fn f(a,) {}", "break; ?",
		// too large
		strings.Repeat("n", 41) + "()", "throw \"" + strings.Repeat("s", 4001) + "\"", "throw " + strings.Repeat("7", 41), many(201, "break", ";"),
		"throw " + strings.Repeat("~", 200) + "a", strings.Repeat("{", 101) + strings.Repeat("}", 101), strings.Repeat("x = {1, 2, 3, 4, 5, 6, 7, 8}\n", 190),
		"break" + strings.Repeat(" ", 65532), strings.Repeat("\n", 65537), strings.Repeat("break\n", 20000),
	} {
		if impl.Parse(text).Code == 0 {
			t.Fatalf("%.100q has a tree", text)
		}
		wantUntidied(t, text)
	}
	var d dice = 28
	for range 100 {
		text, _ := d.inscribed()
		for range 5 {
			if spoilt := d.spoilt(text); impl.Parse(spoilt).Code != 0 {
				wantUntidied(t, spoilt)
			}
		}
	}
}

func TestP5NothingWhereThereIsNoRoom(t *testing.T) {
	// a text of 65536 bytes that is its own one form
	long := impl.Print(listed(filled(t, longRoots()["statements"], 65536, "q", 1)))
	if len(long) != 65536 {
		t.Fatal(len(long))
	}
	wantSameText(t, wantTidied(t, long), long)
	wantSameText(t, wantTidied(t, strings.TrimSuffix(long, "\n")), long)
	wantSameText(t, wantTidied(t, strings.ReplaceAll(long, "throw ", "throw")), long)
	wantSameText(t, wantTidied(t, "break"+strings.Repeat("\n", 65531)), "break\n")
	// well-formed texts whose one form would have more bytes than a text may have
	for _, total := range []int{65537, 65538, 65550} {
		tight := strings.ReplaceAll(pennedText(filled(t, longRoots()["statements"], total, "q", 1)), "throw ", "throw")
		if len(tight) > 65536 || impl.Parse(tight).Code != 0 {
			t.Fatalf("%d bytes have no tree", len(tight))
		}
		wantUntidied(t, tight)
	}
	deep := strings.Repeat("{", 90) + many(10, "{"+many(100, "break", ";")+"}", ";") + strings.Repeat("}", 90)
	if impl.Parse(deep).Code != 0 {
		t.Fatal("no tree")
	}
	wantUntidied(t, deep)
}
