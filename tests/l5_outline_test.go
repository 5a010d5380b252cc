package tests

import (
	"slices"
	"strconv"
	"strings"
	"testing"

	"loop.example/warp/impl"
)

func wantEntries(t *testing.T, x impl.Tree, want []impl.Entry) {
	t.Helper()
	if got := impl.Outline(x); !slices.Equal(got, want) {
		t.Fatalf("%+v, want %+v, of %d nodes %+v", got, want, len(x.Nodes), x.Nodes[:min(len(x.Nodes), 12)])
	}
}

// entriesOf is a second way to an Outline: the fns of the list, each with the nodes that have it below them,
// put in the order of where the nodes below them begin, and where that is the same, the greater node first.
func entriesOf(x impl.Tree) []impl.Entry {
	parents := make([]int, len(x.Nodes))
	begins := make([]int, len(x.Nodes))
	for i, n := range x.Nodes {
		parents[i], begins[i] = -1, i
		for _, kid := range n.Kids {
			parents[kid] = i
			begins[i] = min(begins[i], begins[kid])
		}
	}
	var entries []impl.Entry
	for i, n := range x.Nodes {
		if n.Kind != impl.EFn {
			continue
		}
		e := impl.Entry{Line: n.Line, Node: i}
		if p := x.Nodes[parents[i]]; p.Kind == impl.SFn {
			e.Name = p.Names[0]
		}
		for p := parents[i]; p >= 0; p = parents[p] {
			if x.Nodes[p].Kind == impl.EFn {
				e.Depth++
			}
		}
		entries = append(entries, e)
	}
	slices.SortFunc(entries, func(a, b impl.Entry) int {
		if begins[a.Node] != begins[b.Node] {
			return begins[a.Node] - begins[b.Node]
		}
		return b.Node - a.Node
	})
	return entries
}

// wantOutline fails unless the fns of a text are these, each told as "name line depth bytes", with a - for no name:
// its node has to be the EFn of these bytes.
func wantOutline(t *testing.T, text string, want ...string) {
	t.Helper()
	tree := parsed(t, text)
	var got []string
	for _, e := range impl.Outline(tree) {
		n := tree.Nodes[e.Node]
		if n.Kind != impl.EFn || n.Line != e.Line {
			t.Errorf("%+v is told of %+v", e, n)
		}
		name := e.Name
		if name == "" {
			name = "-"
		}
		got = append(got, name+" "+strconv.Itoa(e.Line)+" "+strconv.Itoa(e.Depth)+" "+text[n.From:n.To])
	}
	if !slices.Equal(got, want) {
		t.Errorf("Outline of %q:\n%q, want\n%q", text, got, want)
	}
	wantEntries(t, tree, entriesOf(tree))
}

func TestP10OutlineWithoutFns(t *testing.T) {
	for _, text := range []string{"", ";\n", "break", "f()", "x = {a, [b] = c, .d = e}", "try {} catch a {}", "let fnn = f(a).fx", "throw \"fn() {}\" -- fn f() {}"} {
		wantOutline(t, text)
	}
	none := kind(impl.SBlock)
	for _, k := range everyKind {
		if k != impl.SFn && k != impl.EFn {
			x := sample(k)
			list, _ := held(x)
			wantEntries(t, list, nil)
			if k < impl.ENil {
				none.below = append(none.below, x)
			}
		}
	}
	wantEntries(t, listed(none), nil)
	wantEntries(t, broad(3000), nil)
	wantEntries(t, chain(100), nil)
}

func TestP10OutlineOfOneFn(t *testing.T) {
	wantOutline(t, "fn f() {}", "f 1 0 () {}")
	wantOutline(t, "fn f(a, b, ...) { g() }", "f 1 0 (a, b, ...) { g() }")
	wantOutline(t, "throw fn() {}", "- 1 0 fn() {}")
	wantOutline(t, "throw (fn(a) {})", "- 1 0 fn(a) {}")
	wantOutline(t, "{{ fn inner() {} }}", "inner 1 0 () {}")
	wantOutline(t, "break\n\nfn f() {}\nnext", "f 3 0 () {}")
	long := strings.Repeat("n", 40)
	wantOutline(t, "fn "+long+"() {}", long+" 1 0 () {}")
	// an EFn with a SFn around it
	wantEntries(t, text(withNames(impl.SFn, "f", fnOf("a"))), []impl.Entry{{Name: "f", Node: 1}})
	wantEntries(t, text(throwOf(fnOf("a"))), []impl.Entry{{Node: 1}})
	wantEntries(t, text(stopStat, throwOf(aName), withNames(impl.SFn, "f", fnOf("a"))), []impl.Entry{{Name: "f", Node: 4}})
}

// Each kid that may be an EFn is one, and it is the only one of its tree.
func TestP10OutlineOfAFnInEachPlace(t *testing.T) {
	places := 0
	for _, r := range treeRows {
		for _, kids := range r.good {
			for i := range len(kids) {
				if !slices.Contains(standing[kids[i]], impl.EFn) || i > 3 && i < len(kids)-1 {
					continue
				}
				places++
				x := r.with(kids)
				x.below[i] = fnOf("a", stopStat)
				x.below[i].Line = 7
				tree, _ := held(x)
				want := impl.Entry{Line: 7, Node: slices.IndexFunc(tree.Nodes, func(n impl.Node) bool { return n.Kind == impl.EFn })}
				if r.node.Kind == impl.SFn {
					want.Name = "a"
				}
				wantEntries(t, tree, []impl.Entry{want})
			}
		}
	}
	if places < 50 {
		t.Error(places)
	}
	// a fn behind statements of each Kind
	for _, k := range standing['s'] {
		fn := withNames(impl.SFn, "f", fnOf(""))
		fn.below[0].Line = 3
		tree := text(sample(k), fn)
		want := []impl.Entry{{Name: "f", Line: 3, Node: len(tree.Nodes) - 3}}
		if k == impl.SFn {
			want = append([]impl.Entry{{Name: "a", Node: 1}}, want...)
		}
		wantEntries(t, tree, want)
	}
}

func TestP10OutlineOfFnsInExpressionsByEye(t *testing.T) {
	for text, want := range map[string][]string{
		"f(fn(a) {}, b, fn(c) {})":      {"- 1 0 fn(a) {}", "- 1 0 fn(c) {}"},
		"(fn(a) {})(fn(b) {})":          {"- 1 0 fn(a) {}", "- 1 0 fn(b) {}"},
		"throw ((fn(a) {})(fn(b) {}))":  {"- 1 0 fn(a) {}", "- 1 0 fn(b) {}"},
		"throw {fn(a) {}, fn(b) {}}":    {"- 1 0 fn(a) {}", "- 1 0 fn(b) {}"},
		"throw {[fn(a) {}] = fn(b) {}}": {"- 1 0 fn(a) {}", "- 1 0 fn(b) {}"},
		"throw {.x = fn(a) {}}":         {"- 1 0 fn(a) {}"},
		"throw {fn(a) {}, [1] = fn(b) {}, .f = fn(c) {}, [fn(d) {}] = 2}": {
			"- 1 0 fn(a) {}", "- 1 0 fn(b) {}", "- 1 0 fn(c) {}", "- 1 0 fn(d) {}"},
		"(fn(a) {}).b, c[fn(d) {}] = fn(e) {}, fn(f) {}": {
			"- 1 0 fn(a) {}", "- 1 0 fn(d) {}", "- 1 0 fn(e) {}", "- 1 0 fn(f) {}"},
		"(fn(a) {})[fn(b) {}] = 1":      {"- 1 0 fn(a) {}", "- 1 0 fn(b) {}"},
		"let x, y = fn(a) {}, fn(b) {}": {"- 1 0 fn(a) {}", "- 1 0 fn(b) {}"},
		"const x = fn(a) {}":            {"- 1 0 fn(a) {}"},
		"if fn(a) {} {} elif fn(b) {} {} else {fn g() {}}": {
			"- 1 0 fn(a) {}", "- 1 0 fn(b) {}", "g 1 0 () {}"},
		"while fn(a) {} { fn b() {} }": {"- 1 0 fn(a) {}", "b 1 0 () {}"},
		"for i = fn(a) {}, fn(b) {}, fn(c) {} { throw fn(d) {} }": {
			"- 1 0 fn(a) {}", "- 1 0 fn(b) {}", "- 1 0 fn(c) {}", "- 1 0 fn(d) {}"},
		"for i, j in fn(a) {} { fn i() {} }":       {"- 1 0 fn(a) {}", "i 1 0 () {}"},
		"return fn(a) {}, fn(b) {}":                {"- 1 0 fn(a) {}", "- 1 0 fn(b) {}"},
		"throw fn(a) {}":                           {"- 1 0 fn(a) {}"},
		"defer (fn(a) {})()":                       {"- 1 0 fn(a) {}"},
		"defer f(fn(a) {})":                        {"- 1 0 fn(a) {}"},
		"try { fn f() {} } catch e { fn g() {} }":  {"f 1 0 () {}", "g 1 0 () {}"},
		"throw fn(a) {} and fn(b) {} or fn(c) {}":  {"- 1 0 fn(a) {}", "- 1 0 fn(b) {}", "- 1 0 fn(c) {}"},
		"throw fn(a) {} + fn(b) {} .. fn(c) {}":    {"- 1 0 fn(a) {}", "- 1 0 fn(b) {}", "- 1 0 fn(c) {}"},
		"throw fn(a) {} .. fn(b) {} .. fn(c) {}":   {"- 1 0 fn(a) {}", "- 1 0 fn(b) {}", "- 1 0 fn(c) {}"},
		"throw not -#~fn(a) {}":                    {"- 1 0 fn(a) {}"},
		"throw (fn(a) {}).b[fn(c) {}](fn(d) {}).e": {"- 1 0 fn(a) {}", "- 1 0 fn(c) {}", "- 1 0 fn(d) {}"},
		"fn f() {}\nlet f = fn(f) {}\nfn f() {}":   {"f 1 0 () {}", "- 2 0 fn(f) {}", "f 3 0 () {}"},
		"fn f() {}; fn f() {}":                     {"f 1 0 () {}", "f 1 0 () {}"},
	} {
		wantOutline(t, text, want...)
	}
}

func TestP10OutlineOfFnsWithinFns(t *testing.T) {
	wantOutline(t, "fn f() { fn g() {} }", "f 1 0 () { fn g() {} }", "g 1 1 () {}")
	wantOutline(t, "fn f() { return fn() {} }", "f 1 0 () { return fn() {} }", "- 1 1 fn() {}")
	wantOutline(t, "fn f() { (fn() {})() }", "f 1 0 () { (fn() {})() }", "- 1 1 fn() {}")
	wantOutline(t, "return fn() { fn g() {} }", "- 1 0 fn() { fn g() {} }", "g 1 1 () {}")
	wantOutline(t, "return fn() { return fn() {} }", "- 1 0 fn() { return fn() {} }", "- 1 1 fn() {}")
	wantOutline(t, "fn f() {\nlet a = fn() {\nfn b() {\nreturn fn() {}\n}\n}\n}\nfn c() {}",
		"f 1 0 () {\nlet a = fn() {\nfn b() {\nreturn fn() {}\n}\n}\n}",
		"- 2 1 fn() {\nfn b() {\nreturn fn() {}\n}\n}",
		"b 3 2 () {\nreturn fn() {}\n}",
		"- 4 3 fn() {}",
		"c 8 0 () {}")
	// what stands beside a fn counts from the fns around it alone
	wantOutline(t, "fn f() { fn g() { fn h() {} }; fn i() {} }; fn j() { throw fn() {} }",
		"f 1 0 () { fn g() { fn h() {} }; fn i() {} }", "g 1 1 () { fn h() {} }", "h 1 2 () {}", "i 1 1 () {}",
		"j 1 0 () { throw fn() {} }", "- 1 1 fn() {}")
	wantOutline(t, "f(fn(a) { g(fn(b) {}) }, fn(c) {})(fn(d) {})", "- 1 0 fn(a) { g(fn(b) {}) }", "- 1 1 fn(b) {}", "- 1 0 fn(c) {}", "- 1 0 fn(d) {}")
	wantOutline(t, "fn f() { if a { while b { {\nfn g() {} } } } else { try { throw {fn() {}} } catch e {} } }",
		"f 1 0 () { if a { while b { {\nfn g() {} } } } else { try { throw {fn() {}} } catch e {} } }", "g 2 1 () {}", "- 2 1 fn() {}")
	// its nodes by eye: {}, EFn, SReturn, {}, EFn, SFn, the text
	wantEntries(t, text(withNames(impl.SFn, "f", fnOf("", kind(impl.SReturn, fnOf(""))))), []impl.Entry{{Name: "f", Node: 4}, {Depth: 1, Node: 1}})
}

func TestP10OutlineTellsTheLineOfTheEFn(t *testing.T) {
	wantOutline(t, "fn f\n() {}", "f 2 0 () {}")
	wantOutline(t, "fn\nf\n-- r\n\n(\na) {}", "f 5 0 (\na) {}")
	wantOutline(t, "let a =\n\nfn() {}", "- 3 0 fn() {}")
	wantOutline(t, "\n\nfn\nf\n() {\nreturn\nfn\ng\n() {}\n}", "f 5 0 () {\nreturn\nfn\ng\n() {}\n}", "g 9 1 () {}")
	for _, line := range []int{0, 1, 2, 65537, 1<<63 - 1} {
		fn := withNames(impl.SFn, "f", fnOf(""))
		fn.Line, fn.below[0].Line, fn.below[0].below[0].Line = 12, line, 13
		wantEntries(t, text(fn), []impl.Entry{{Name: "f", Line: line, Node: 1}})
		inner := throwOf(fnOf(""))
		inner.Line, inner.below[0].Line, inner.below[0].below[0].Line = 12, line, 13
		wantEntries(t, text(inner), []impl.Entry{{Line: line, Node: 1}})
	}
}

// Statements that make names known give none of them to a fn that is their kid.
func TestP10OutlineNamesTheFnOfASFnAlone(t *testing.T) {
	for _, k := range []int{impl.SLet, impl.SConst, impl.SFor, impl.SEach} {
		x := sample(k)
		x.Names = []string{"name"}
		for i := range max(1, len(x.below)) {
			if i < len(x.below) && x.below[i].Kind == impl.SBlock {
				continue
			}
			y := x
			y.below = append(slices.Clone(x.below[:i]), fnOf("param"))
			if i < len(x.below) {
				y.below = append(y.below, x.below[i+1:]...)
			}
			tree := text(withNames(impl.SFn, "f", fnOf("", y)))
			wantTree(t, tree, 0, 0)
			got := impl.Outline(tree)
			if len(got) != 2 || got[0].Name != "f" || got[1].Name != "" || got[1].Depth != 1 {
				t.Errorf("Kind %d: %+v", k, got)
			}
		}
	}
	for _, x := range []twig{namedOf("name", fnOf("")), pairOf(nameOf("name"), fnOf(""))} {
		wantEntries(t, text(throwOf(kind(impl.ETable, x))), []impl.Entry{{Node: len(listed(x).Nodes) - 2}})
	}
	wantEntries(t, text(throwOf(fieldOf(fnOf(""), "name"))), []impl.Entry{{Node: 1}})
}

func TestP10OutlineOfTreesAtTheBounds(t *testing.T) {
	// 33 fns of SFns, each in the one ahead: the innermost block has depth 99
	deep := deepest(t, stopStat, func(x twig) twig { return withNames(impl.SFn, "f", fnOf("", x)) })
	got := impl.Outline(deep)
	if len(got) != 33 {
		t.Fatal(len(got))
	}
	for i, e := range got {
		if e.Name != "f" || e.Depth != i || e.Node != len(deep.Nodes)-3-3*i {
			t.Errorf("%d: %+v", i, e)
		}
	}
	wantEntries(t, deep, entriesOf(deep))
	calls := deepest(t, aName, func(x twig) twig { return fnOf("", throwOf(x)) })
	if got := impl.Outline(calls); len(got) != 32 || got[31].Depth != 31 {
		t.Error(got)
	}
	// as many fns as a tree has room for
	bare := kind(impl.SBlock)
	for range 7 {
		bare.below = append(bare.below, kind(impl.SReturn, slices.Repeat([]twig{fnOf("")}, 200)...))
	}
	bare.below = append(bare.below, slices.Repeat([]twig{throwOf(fnOf(""))}, 64)...)
	wantFns(t, bare, 1464)
	named := kind(impl.SBlock)
	for _, n := range []int{200, 200, 200, 200, 198} {
		named.below = append(named.below, blockOf(slices.Repeat([]twig{withNames(impl.SFn, "f", fnOf(""))}, n)...))
	}
	wantFns(t, named, 998)
}

// wantFns fails unless a sound tree of 3000 nodes has so many fns, told as they should be.
func wantFns(t *testing.T, root twig, fns int) {
	t.Helper()
	tree := listed(root)
	wantTree(t, tree, 0, 0)
	if got := impl.Outline(tree); len(tree.Nodes) != 3000 || len(got) != fns {
		t.Errorf("%d fns in %d nodes", len(got), len(tree.Nodes))
	}
	wantEntries(t, tree, entriesOf(tree))
}

// wrapped puts a twig into fns of both forms.
func (d *dice) wrapped(x twig) twig {
	for range d.roll(4) {
		fn := fnOf("a", d.grown('s', d.roll(3)), x, d.grown('s', d.roll(3)))
		if d.roll(2) == 0 {
			x = withNames(impl.SFn, "f", fn)
		} else {
			x = throwOf(callOf(aName, d.grown('e', d.roll(3)), fn, d.grown('e', d.roll(3))))
		}
	}
	return x
}

func TestP10OutlineHasEachFnOnce(t *testing.T) {
	t.Parallel()
	var d dice = 31
	named, bare, deep := 0, 0, 0
	for range 3000 {
		root := kind(impl.SBlock)
		for range d.roll(5) {
			x := d.wrapped(d.grown('s', d.roll(6)))
			d.vary(&x)
			root.below = append(root.below, x)
		}
		tree := listed(root)
		if impl.TreeOk(tree).Code != 0 {
			continue
		}
		for i := range tree.Nodes {
			tree.Nodes[i].Line = d.roll(1000)
		}
		wantEntries(t, tree, entriesOf(tree))
		var nodes, fns []int
		for _, e := range impl.Outline(tree) {
			nodes = append(nodes, e.Node)
			if e.Name != "" {
				named++
			} else {
				bare++
			}
			if e.Depth > 1 {
				deep++
			}
		}
		for i, n := range tree.Nodes {
			if n.Kind == impl.EFn {
				fns = append(fns, i)
			}
		}
		slices.Sort(nodes)
		if !slices.Equal(nodes, fns) {
			t.Fatalf("%v, want each of %v once", nodes, fns)
		}
	}
	if named < 200 || bare < 200 || deep < 50 {
		t.Errorf("%d with a name, %d without, %d deep", named, bare, deep)
	}
}
